import PyProof.Rows.All
import Wide.All
import OpenK.AllK
import Wide.FinOn
import HandS.ForMost
import HandS.ForExc
import HandS.Evl
import HandS.ExcIs
import HandS.RaiseMore
import HandS.IsInst
import HandS.Replace
import HandS.Flow
import HandS.Walk
import KE.RegKIsAll
import KE.IntTextLaws
import HandS.CallLocal
import HandS.Defaults
import HandS.MakeKwOnly
import PySem.Challenge.RW_plinth_k25_translator_code_by_code
set_option Elab.async false
set_option linter.all false
set_option maxRecDepth 100000
set_option maxHeartbeats 4000000
/-! A layer of our own: defs that are promised only where no repr is running (guards), repr of data, the end of a law. -/
namespace Gd
open PySem PySem.Spec PyProof.Rows L2

/-- a def's promise, given only where no guard stands around -/
structure GOk (P : Program) (w : World) (K : PySem.W.Frag) (mg : Str → Option Value) (base : Heap) (CX : CXT) (k : Nat) (f : Addr) (fd : FuncData) (ps : List Str) (sp : Sp) : Prop where
  len : ∀ vs H Q E, sp vs H Q E → vs.length = ps.length
  go : ∀ (A : Around) (outer : List Env) (s : Shared) (H : Hp) (args : Args) (us : List Value) (vs : List V) (Q : VK) (E : XK),
    A.guards = some [] → Room k A → Env0 P w K mg base A outer s H → BindsTo s fd args (ps.zip us) → Vals vs us → sp vs H Q E →
      codeAny (model P w) A (.call (.ref f) args) (CR CX outer P w H s Q E) s

section
variable {P : Program} {w : World} {K : PySem.W.Frag} {mg : Str → Option Value} {base : Heap}
theorem gfun {CX : CXT} {x qual : Str} {st : Stmt} {f : Addr} {fd : FuncData} {N ps : List Str} {k : Nat} {sp : Sp}
    (F : Fun K x qual st f fd) (S : FnScope N ps (defScope st)) (len : ∀ vs H Q E, sp vs H Q E → vs.length = ps.length)
    (hb : ∀ (cdv : Value) (A : Around) (outer : List Env) (s : Shared) (H : Hp) (vs : List V) (Q : VK) (E : XK),
      A.guards = some [] → Room k (A.deeper (envOfC qual (defScope st) s.heap.objs.size f cdv)) → sp vs H Q E →
      ∃ t, PSs (cxOf CX P w K mg base N qual (defScope st) f cdv A outer s H E) (defBody st) t ∧ t { nx := fun _ H' => Q .non H', rt := Q } (start N vs) H) :
    GOk P w K mg base CX (k + 1) f fd ps sp := by
  obtain ⟨oc, od, kV, doc, pm, an, cdv, ct, osl, rfl, lk, hcd⟩ := F.ex
  constructor
  · exact len
  intro A outer s H args us vs Q E hg hr e0 hbd rv hsp
  have hl := len _ _ _ _ hsp
  have kp := fun b o e => (e0.bs b o e).1
  have KX : K.In s.heap := e0.mod.kin.keeps kp
  have lim : s.heap.NoLimit := e0.mod.nolimit.keeps kp
  refine codeAny_call_function hr.depth (KX _ _ lk) rfl S.co S.gen rfl (PySem.W.codeRec_of KX hcd) (hbd _ _ _ _ ?_)
  have hkind : ∀ y ∈ ps.zip us, (defScope st).names.lookup y.1 = some .local ∨ ((defScope st).names.lookup y.1 = some .cell ∧ ((cellsFrom (s.heap.objs.size + 1) (defScope st).names []).lookup y.1).isSome = true) := by
    rintro ⟨n, v⟩ hy
    cases S.par n (List.of_mem_zip hy).1 with
    | inl q => exact .inl q
    | inr q => exact .inr ⟨q, PySem.W.cellsFrom_some _ _ _ (.inl q)⟩
  refine wpAny_newFunctionEnv_cells S.kind hkind fun env he s1 x => ?_
  subst he
  obtain ⟨t, ht, hq⟩ := hb cdv A outer s H vs Q E hg (hr.deeper _) hsp
  refine ⟨lim.keeps x.toInCall.keep, codeAny_func (wpAny_mono (ht.run [] s1 (start N vs) H _ (inv_start S hr.hd e0 hl rv x) hq) (fun fl s' hs => ?_) fun e s' hs => hs)⟩
  cases fl with
  | ret u =>
    obtain ⟨v, σ', H', J, r2, q⟩ := hs
    exact ⟨v, H', J.os, J.bare, J.base, J.hok, r2, q⟩
  | next =>
    obtain ⟨σ', H', J, q⟩ := hs
    exact ⟨V.non, H', J.os, J.bare, J.base, J.hok, rfl, q⟩
  | brk => exact (let ⟨_, _, _, q⟩ := hs; False.elim q)
  | cont => exact (let ⟨_, _, _, q⟩ := hs; False.elim q)
end

/-! ### the call of such a def, from a body around which no guard stands -/
section
variable {X : Cx} {CX : CXT} {k : Nat} {f : Addr} {fd : FuncData} {ps : List Str} {sp : Sp} {E : XK} {x : Str} {p pos : Pos} {e : Expr} {es : List Expr} {t : TA}
theorem pe_callG (F : GOk X.prog X.w X.K X.mg X.base CX k f fd ps sp) (hgd : X.A.guards = some []) (hr : Room k X.A) (hg : Gl X x) (hm : X.mg x = some (.ref f)) (hk : PySem.W.keepIn X.K (.ref f) = true)
    (hb : Binds X.K fd ps []) (hx : Passes CX X E) (ha : PA X (e :: es) t) (hdb : (x == ("__debug__" : Str)) = false := by decide)
    (he : starEach (e :: es) X.env = (false, eval e X.env) :: starEach es X.env := by rfl) (hpl : (backTo pos (starEach es X.env)).any (·.1) = false := by rfl) :
    PE X (.Call (.Name x p) (e :: es) [] pos) (tCall sp [] E t) := by
  constructor
  intro pins s σ H Q I h
  refine wpAny_Call_Name_kw (ld_glob I hg hm ?_ hdb)
  refine PySem.W.callWith_K (h₀ := X.base) I.ok.mod.kin hk (thn (ha.run pos pins s σ H _ I h) fun us s1 hh => ?_) he hpl
  obtain ⟨vs, H1, I1, r, q⟩ := hh
  refine ⟨I1.kIn, ?_⟩
  rw [List.append_nil] at q
  have hl : us.length = ps.length := r.length.symm.trans (F.len _ _ _ _ q)
  have bd := hb s1 us I1.kIn (by rw [List.append_nil]; exact hl)
  rw [List.append_nil] at bd
  refine wpAny_call (codeAny_mono (F.go X.A X.stack s1 H1 ⟨us, []⟩ us vs Q E hgd hr I1.env0 bd r q) fun r' s' hq => ?_)
  cases r' with
  | error e => exact hx pins σ H1 s1 e s' I1 hq
  | ok fl =>
    cases fl with
    | ret u => exact I1.after hq
    | next => exact False.elim hq
    | brk => exact False.elim hq
    | cont => exact False.elim hq
end

/-! ### repr of data -/
def rRepr (K : PySem.W.Frag) : List V → Hp → VK → Prop := fun xs H Q => ∃ (v : V) (d : PyData), xs = [v] ∧ Dp K H v d ∧ d.showable = true ∧ d.hasDict = false ∧ d.depth ≤ 40 ∧ d.shown.length ≤ sizeLine ∧ Q (.str d.shown) H
section
variable {X : Cx}
theorem call_reprD (hgd : X.A.guards = some []) (hu : X.A.units + 64 < cLine) : CallR X (.builtin "repr") (rRepr X.K) := by
  intro pins s σ H xs us Q I r h
  obtain ⟨v, d, rfl, hd, hs, hnd, hdp, hz, q⟩ := h
  obtain ⟨u, rfl, ru⟩ := vals1 r
  obtain ⟨as, hr⟩ := Dp.reads I d v u hd ru
  cases hd with
  | lst h1 h2 =>
    cases ru
    exact repr_of_reads' hr hs (PyData.noDict_hsm hnd) hgd (by omega) (fun _ _ e => e) (fun h' u tk hk => ⟨.str _, H, I.kept (t' := tk) hk, ⟨_, rfl⟩, q⟩) hz
  | tup h1 h2 =>
    cases ru
    exact repr_of_reads' hr hs (PyData.noDict_hsm hnd) hgd (by omega) (fun _ _ e => e) (fun h' u tk hk => ⟨.str _, H, I.kept (t' := tk) hk, ⟨_, rfl⟩, q⟩) hz
  | int i =>
    obtain ⟨t, rfl⟩ := ru
    exact PySem.P.repr_of_int (of_decide_eq_true hs) ⟨.str _, H, I.tok _, ⟨_, rfl⟩, q⟩
  | non =>
    cases ru
    exact PySem.P.repr_of_none ⟨.str _, H, I.tok _, ⟨_, rfl⟩, q⟩
  | bl b =>
    cases ru
    refine PySem.P.repr_of_bool ⟨.str _, H, I.tok _, ⟨_, rfl⟩, ?_⟩
    have e : (PyData.bool b).shown = (if b then ("True" : Str) else "False") := by unfold PyData.shown; rfl
    rw [← e]
    exact q
  | str x =>
    obtain ⟨t, rfl⟩ := ru
    exact PySem.P.repr_of_str ⟨.str _, H, I.tok _, ⟨_, rfl⟩, q⟩ hz
end

/-! ### the end of a law whose def is so promised -/
section
variable {P : Program} {w : World} {K : PySem.W.Frag} {mg mb : Str → Option Value} {CX : CXT} {k : Nat} {fa a : Addr} {fd : FuncData} {x : Str} {sp : Sp} {s₁ : Shared} {vs : List Value} {ns : List Int}
/-- from an abstract heap H that tracks at most the script -/
theorem g_core (H : Hp) (KX : K.In s₁.heap) (hns : s₁.heap.Ns mainGlobals mg) (hb : s₁.heap.Ns builtinsNs mb) (hbb : ∀ x : Str, x ≠ "__name__" → mb x = bootBuiltins x) (hlim : s₁.heap.NoLimit) (hg : s₁.gens = #[])
    (ha : s₁.heap.get? a = some { cls := .type "list", data := .seq vs.toArray }) (hr : Room k callerA)
    (F : ∀ base : Heap, K.In base → base.Ns mainGlobals mg → GOk P w K mg base CX k fa fd [x] sp) (hbind : ∀ (s : Shared) (u : Value), BindsTo s fd ⟨[u], []⟩ [(x, u)])
    (hsp : sp [.ref a] H (fun v _ => v = .bl true) fun _ _ _ => False) (hCX : ∀ e s', CX [] H s₁ (fun _ _ _ => False) e s' → False)
    (hO : Only H) (hok : HOk P w H s₁.heap) (hA : ∀ b u, H b = some u → b = a ∧ K.lookup a = none) :
    codeAny (model P w) callerA (.call (.ref fa) ⟨[.ref a], []⟩) (fun r s' => r = .ok (.ret (.bool true)) ∧ PySem.OldK s₁.heap s'.heap ∧ s'.os = s₁.os ∧ AllBare s'.gens) s₁ := by
  have hid : ∀ {b : Addr} {o : Obj}, s₁.heap.get? b = some o → H b = none → (hidT s₁.heap H).get? b = some o := fun e n => hidT_get e n
  have un_d : ∀ {b : Addr} {o : Obj} {es : Array DictEntry} {ep : Nat}, s₁.heap.get? b = some o → o.data = .dict es ep → H b = none := by
    intro b o es ep e d
    cases q : H b with
    | none => rfl
    | some u =>
      rw [(hA b u q).1, ha] at e
      cases e
      exact nomatch d
  have ns_b : ∀ {b : Addr} {m : Str → Option Value}, s₁.heap.Ns b m → (hidT s₁.heap H).Ns b m := by
    rintro b m ⟨o, es, ep, e, d, r⟩
    exact ⟨o, es, ep, hid e (un_d e d), d, r⟩
  have k_b : K.In (hidT s₁.heap H) := by
    intro b o e
    refine hid (KX b o e) ?_
    cases q : H b with
    | none => rfl
    | some u =>
      obtain ⟨e1, e2⟩ := hA b u q
      rw [e1, e2] at e
      cases e
  have nl : (hidT s₁.heap H).NoLimit := let ⟨mc, h1, h2⟩ := hlim; ⟨mc, ns_b h1, h2⟩
  have e0 : Env0 P w K mg (hidT s₁.heap H) callerA [] s₁ H :=
    { frames := rfl, mod := ⟨k_b, ns_b hns, ⟨mb, ns_b hb, hbb⟩, nl⟩, bs := fun b o e => of_hidT e, bsz := Nat.le_of_eq (hidT_size _ _), funs := trivial,
      frf := fun b z => absurd (show b ∈ ([] : List Addr) from z) List.not_mem_nil, hok := hok, bare := .of_eq hg }
  refine codeAny_mono ((F _ k_b (ns_b hns)).go callerA [] s₁ H ⟨[.ref a], []⟩ [.ref a] [.ref a] _ _ rfl hr e0 (hbind s₁ (.ref a)) (.cons rfl .nil) hsp) fun r s' h => ?_
  cases r with
  | error e => exact (hCX e s' h).elim
  | ok fl =>
    cases fl with
    | next => exact False.elim h
    | brk => exact False.elim h
    | cont => exact False.elim h
    | ret u =>
      obtain ⟨v, H', os, bare, un, hok', r', q⟩ := h
      cases (show v = .bl true from q)
      cases (show u = Value.bool true from r')
      refine ⟨rfl, OldK.of_keep fun b o e => ?_, os, bare⟩
      cases q : H b with
      | none => exact un.keep b o e q (fun z => absurd (show b ∈ ([] : List Addr) from z) List.not_mem_nil) List.not_mem_nil
      | some u =>
        cases hO b with
        | inl z => exact nomatch q.symm.trans z
        | inr z =>
          obtain ⟨ob, xs, z⟩ := z
          obtain ⟨e1, _⟩ := hok b _ z
          cases e.symm.trans e1
          exact (hok' b _ (un.frzs b _ _ z)).1

theorem g_call (KX : K.In s₁.heap) (hns : s₁.heap.Ns mainGlobals mg) (hb : s₁.heap.Ns builtinsNs mb) (hbb : ∀ x : Str, x ≠ "__name__" → mb x = bootBuiltins x) (hlim : s₁.heap.NoLimit) (hg : s₁.gens = #[])
    (ha : s₁.heap.get? a = some { cls := .type "list", data := .seq vs.toArray }) (hi : IntsAre vs ns) (hl : ns.length ≤ sizeLine) (hr : Room k callerA)
    (F : ∀ base : Heap, K.In base → base.Ns mainGlobals mg → GOk P w K mg base CX k fa fd [x] sp) (hbind : ∀ (s : Shared) (u : Value), BindsTo s fd ⟨[u], []⟩ [(x, u)])
    (hsp : ∀ H : Hp, Only H → SqL K H a (ns.map V.int) → sp [.ref a] H (fun v _ => v = .bl true) fun _ _ _ => False)
    (hCX : ∀ H e s', CX [] H s₁ (fun _ _ _ => False) e s' → False) :
    codeAny (model P w) callerA (.call (.ref fa) ⟨[.ref a], []⟩) (fun r s' => r = .ok (.ret (.bool true)) ∧ PySem.OldK s₁.heap s'.heap ∧ s'.os = s₁.os ∧ AllBare s'.gens) s₁ := by
  have rv := vals_ints hi
  cases hk : K.lookup a with
  | some o =>
    cases ha.symm.trans (KX a o hk)
    have O : Only (fun _ => none : Hp) := fun _ => .inl rfl
    refine g_core (fun _ => none) KX hns hb hbb hlim hg ha hr F hbind (hsp _ O (.inr ?_)) (hCX _) O (fun b u z => nomatch (show (none : Option HO) = some u from z)) (fun b u z => nomatch (show (none : Option HO) = some u from z))
    exact ⟨_, vs.toArray, _, hk, rfl, rfl, rfl, by rw [List.size_toArray, hi.length]; exact hl, by simpa using rv⟩
  | none =>
    let sc : HO := .frz { cls := .type "list", data := .seq vs.toArray } (.lst (ns.map V.int))
    let H : Hp := fun b => if b = a then some sc else none
    have Ha : H a = some sc := if_pos rfl
    have Hb : ∀ b u, H b = some u → b = a ∧ u = sc := by
      intro b u z
      by_cases q : b = a
      · exact ⟨q, Option.some.inj (z.symm.trans (if_pos q))⟩
      · exact nomatch z.symm.trans (if_neg q)
    have O : Only H := by
      intro b
      by_cases q : b = a
      · exact .inr ⟨_, _, if_pos q⟩
      · exact .inl (if_neg q)
    refine g_core H KX hns hb hbb hlim hg ha hr F hbind (hsp H O (.inl (.inr ⟨_, Ha⟩))) (hCX H) O (fun b u z => ?_) (fun b u z => ⟨(Hb b u z).1, hk⟩)
    obtain ⟨rfl, rfl⟩ := Hb b u z
    exact ⟨ha, by rw [List.length_map]; exact hl, vs, _, rv, ha⟩
end

/-- the goal that k_head leaves of a law whose promise hangs on the written part alone -/
theorem g_walk {l : PySem.W.OpenLaw} {n k : Nat} {q : Program} {loose : List Str} {XP : (Str → Option Value) → Heap → Prop} {YP : World → Heap → Prop} {d : DefRec} {K : Params → PySem.W.Frag} {sp : PySem.W.Frag → Sp} {x : Str}
    (hn : l.most = some n) (hn2 : n ≤ sizeLine) (hdf : d.params.defaults = []) (hr : Room k callerA) (hY : ∀ (w : World) (h : Heap), YP w h → (K w.params).In h)
    (F : ∀ (w : World) (mg : Str → Option Value) (fa : Addr) (h : Heap), (K w.params).In h → h.Ns mainGlobals mg → mg d.name = some (.ref fa) →
      ∃ fd : FuncData, (∀ (s : Shared) (u : Value), BindsTo s fd ⟨[u], []⟩ [(x, u)]) ∧ ∀ base : Heap, (K w.params).In base → base.Ns mainGlobals mg → GOk l.prog w (K w.params) mg base CX0 k fa fd [x] (sp (K w.params)))
    (hsp : ∀ (K : PySem.W.Frag) (H : Hp) (a : Addr) (ns : List Int), ns.length ≤ n → Only H → SqL K H a (ns.map V.int) → sp K [.ref a] H (fun v _ => v = .bl true) fun _ _ _ => False) :
    PySem.W.WalkO q loose XP YP l.row.toRowW d [] (fun f vs => PySem.call f vs) := by
  refine Att.attach_call hn hdf ?_
  intro w s₀ s₁ mg mb fa o pm cd doc a vs ns G Y ho hd hcd hmg hobj hints hlen hg
  have KX := hY w _ Y
  obtain ⟨fd, hb, hF⟩ := F w mg fa _ KX G.T.g hmg
  exact g_call KX G.T.g G.T.b G.T.builtins G.T.nolimit hg hobj hints (Nat.le_trans hlen hn2) hr hF hb (fun H hO hS => hsp _ H a ns hlen hO hS) fun H e s' z => z
end Gd

set_option Elab.async false
set_option linter.all false
set_option maxRecDepth 100000
set_option maxHeartbeats 4000000
/-! More of our own: what evaluates to what, for chains, calls, texts; the draws of the laws. -/
namespace Gd
open PySem PySem.Spec PyProof.Rows L2 Evl
section
variable {K : PySem.W.Frag} {σ : L2.St} {H H' : Hp} {ta tb tc te : TE} {t u : TT} {x y z v : V} {r r' : R2}
theorem ev_chain {a b : Bool} {c : V} (ha : Ev ta σ H x) (hb : Ev tb σ H y) (hr : RV r x y H (.bl a)) (hc : a = true → Ev tc σ H c) (hr2 : a = true → RV r' y c H (.bl b)) :
    Ev (tChain r r' ta tb tc) σ H (.bl (a && b)) := fun H1 e Q q =>
  ha H1 e _ fun H2 e2 => hb H2 (e.trans e2) _ fun H3 e3 => hr H3 ((e.trans e2).trans e3) _ fun H4 e4 => ⟨a, rfl, by
    have e14 := (e2.trans e3).trans e4
    cases a with
    | true =>
      rw [if_pos rfl]
      exact hc rfl H4 (e.trans e14) _ fun H5 e5 => hr2 rfl H5 ((e.trans e14).trans e5) Q fun H6 e6 => q H6 ((e14.trans e5).trans e6)
    | false =>
      rw [if_neg Bool.false_ne_true]
      exact q H4 e14⟩
theorem rv_eqI {i j : Int} : RV rEq (.int i) (.int j) H (.bl (decide (i = j))) := by
  have h : RV rEq (.int i) (.int j) H (.bl (decide (V.int i = V.int j))) := rv_eq rfl
  have e : decide (V.int i = V.int j) = decide (i = j) := by
    by_cases h : i = j
    · rw [h, decide_eq_true rfl, decide_eq_true rfl]
    · rw [decide_eq_false h, decide_eq_false (fun q => h (V.int.inj q))]
  rw [← e]
  exact h
theorem rv_eqS {i j : Str} : RV rEq (.str i) (.str j) H (.bl (decide (i = j))) := by
  have h : RV rEq (.str i) (.str j) H (.bl (decide (V.str i = V.str j))) := rv_eq rfl
  have e : decide (V.str i = V.str j) = decide (i = j) := by
    by_cases h : i = j
    · rw [h, decide_eq_true rfl, decide_eq_true rfl]
    · rw [decide_eq_false h, decide_eq_false (fun q => h (V.str.inj q))]
  rw [← e]
  exact h
theorem rv_neS {i j : Str} : RV rNe (.str i) (.str j) H (.bl (!decide (i = j))) := by
  have h : RV rNe (.str i) (.str j) H (.bl (!decide (V.str i = V.str j))) := rv_ne rfl
  have e : decide (V.str i = V.str j) = decide (i = j) := by
    by_cases h : i = j
    · rw [h, decide_eq_true rfl, decide_eq_true rfl]
    · rw [decide_eq_false h, decide_eq_false (fun q => h (V.str.inj q))]
  rw [← e]
  exact h
theorem rv_neI {i j : Int} : RV rNe (.int i) (.int j) H (.bl (!decide (i = j))) := by
  have h : RV rNe (.int i) (.int j) H (.bl (!decide (V.int i = V.int j))) := rv_ne rfl
  have e : decide (V.int i = V.int j) = decide (i = j) := by
    by_cases h : i = j
    · rw [h, decide_eq_true rfl, decide_eq_true rfl]
    · rw [decide_eq_false h, decide_eq_false (fun q => h (V.int.inj q))]
  rw [← e]
  exact h
theorem rv_mod {i j : Int} (h : j ≠ 0) : RV (rI (fun _ j => j ≠ 0) fun i j => .int (i.fmod j)) (.int i) (.int j) H (.int (i.fmod j)) := rv_I h
theorem rv_fdiv {i j : Int} (h : j ≠ 0) (h2 : j.natAbs < 1073741824) : RV (rI CDivN fun i j => .int (i.fdiv j)) (.int i) (.int j) H (.int (i.fdiv j)) := rv_I ⟨h, h2⟩
theorem rv_mulR {i j : Int} (h : -(2 ^ 64) < j ∧ j < 2 ^ 64) : RV (rI CMul fun i j => .int (i * j)) (.int i) (.int j) H (.int (i * j)) := rv_I (.inr h)
theorem rv_mulL {i j : Int} (h : -(2 ^ 64) < i ∧ i < 2 ^ 64) : RV (rI CMul fun i j => .int (i * j)) (.int i) (.int j) H (.int (i * j)) := rv_I (.inl h)
theorem rv_pow {i j : Int} (h : 0 ≤ j ∧ j ≤ 1000000 ∧ i.natAbs < 2 ^ 64) : RV (rI CPow fun i j => .int (i ^ j.toNat)) (.int i) (.int j) H (.int (i ^ j.toNat)) := rv_I h
def rAddT : R2 := fun x y H Q => ∃ i j, x = .str i ∧ y = .str j ∧ i.length + j.length ≤ sizeLine ∧ Q (.str (i ++ j)) H
theorem rv_addS {i j : Str} (h : i.length + j.length ≤ 100000) : RV rAddT (.str i) (.str j) H (.str (i ++ j)) := fun H1 _ _ q => ⟨i, j, rfl, rfl, sz_of h, q H1 (Ex.refl H1)⟩
def rInt1 : List V → Hp → VK → Prop := fun xs H Q => (∃ i, xs = [.int i] ∧ Q (.int i) H) ∨ ∃ k, xs = [.bl k] ∧ Q (.int (if k then 1 else 0)) H
theorem rc_int {i : Int} : RC rInt1 [.int i] H (.int i) := fun H1 _ _ q => .inl ⟨i, rfl, q H1 (Ex.refl H1)⟩
theorem rc_intB {k : Bool} : RC rInt1 [.bl k] H (.int (if k then 1 else 0)) := fun H1 _ _ q => .inr ⟨k, rfl, q H1 (Ex.refl H1)⟩
def rOrd : List V → Hp → VK → Prop := fun xs H Q => ∃ x, xs = [.str x] ∧ x.length = 1 ∧ Q (.int (x.cps.getD 0 0 : Nat)) H
theorem rc_ord {c : Nat} : RC rOrd [.str ⟨#[c]⟩] H (.int (c : Int)) := fun H1 _ _ q => ⟨⟨#[c]⟩, rfl, rfl, q H1 (Ex.refl H1)⟩
def rLenT : List V → Hp → VK → Prop := fun xs H Q => ∃ x, xs = [.str x] ∧ x.length ≤ sizeLine ∧ Q (.int x.length) H
theorem rc_lenS {x : Str} (h : x.length ≤ 100000) : RC rLenT [.str x] H (.int x.length) := fun H1 _ _ q => ⟨x, rfl, sz_of h, q H1 (Ex.refl H1)⟩
theorem rc_repr {d : PyData} (hd : Dp K H v d) (hm : ∀ H1, Ex H H1 → Dp K H1 v d) (hs : d.showable = true) (hn : d.hasDict = false) (hp : d.depth ≤ 40) (hz : d.shown.length ≤ sizeLine) : RC (rRepr K) [v] H (.str d.shown) :=
  fun H1 e _ q => ⟨v, d, rfl, hm H1 e, hs, hn, hp, hz, q H1 (Ex.refl H1)⟩
theorem ev_sub {a : TE} {lo hi : TO} {i j : Option Int} {z : Str} (h : Ev a σ H (.str z)) (hl : EvO lo σ H i) (hh : EvO hi σ H j) (hz : z.length ≤ 100000) : Ev (tSl rSlS a lo hi) σ H (.str (cutS z i j)) := fun H1 e Q q =>
  h H1 e _ fun H2 e2 => hl H2 (e.trans e2) _ fun H3 e3 => hh H3 ((e.trans e2).trans e3) _ fun H4 e4 => ⟨z, rfl, sz_of hz, q H4 ((e2.trans e3).trans e4)⟩
end

/-! ### data of lists of ints -/
theorem dpAll_ints {K : PySem.W.Frag} {H : Hp} : ∀ ns : List Int, DpAll K H (ns.map V.int) (ns.map PyData.int)
  | [] => .nil
  | n :: r => .cons (.int n) (dpAll_ints r)
theorem dp_ints {K : PySem.W.Frag} {H : Hp} {a : Addr} {ns : List Int} (h : SqL K H a (ns.map V.int)) : Dp K H (.ref a) (.list (ns.map PyData.int)) := .lst h (dpAll_ints ns)
theorem showAll_ints : ∀ (ns : List Int), (∀ n ∈ ns, n.natAbs.log2 < 1920) → PyData.showableAll (ns.map PyData.int) = true
  | [], _ => by simp [PyData.showableAll]
  | n :: r, h => by
    rw [List.map_cons, PyData.showableAll, PyData.showable, decide_eq_true (h n List.mem_cons_self), showAll_ints r fun m hm => h m (List.mem_cons_of_mem _ hm)]
    rfl
theorem noDict_ints : ∀ ns : List Int, PyData.hasDictAll (ns.map PyData.int) = false
  | [] => by simp [PyData.hasDictAll]
  | n :: r => by
    rw [List.map_cons, PyData.hasDictAll, noDict_ints r, PyData.hasDict]
    rfl
theorem depthAll_ints : ∀ ns : List Int, PyData.depthAll (ns.map PyData.int) ≤ 1
  | [] => by simp [PyData.depthAll]
  | n :: r => by
    rw [List.map_cons, PyData.depthAll, PyData.depth]
    have := depthAll_ints r
    omega

/-! ### the script's cells -/
def cellN (ns : List Int) (k : Nat) : Int := ns.getD k 0

/-! ### comprehensions without a test: items mapped -/
section
variable {K : PySem.W.Frag} {σ : L2.St} {H H1 : Hp} {te tl : TE} {vs : List Nat} {j : Nat}
theorem take_snoc {α : Type} {l : List α} {i : Nat} {x : α} (h : l[i]? = some x) : l.take (i + 1) = l.take i ++ [x] := by
  rw [List.take_add_one, h]
  rfl
theorem lc_map {J : It} {G : Hp → Prop} {Y : Nat → Hp → V → Hp → Prop} {xs : List V} {D : Addr} {Qd : Hp → Prop} (w : Walk J xs.length G Y) (hY : ∀ i H x H', i < xs.length → Y i H x H' → H' = H ∧ xs[i]? = some x)
    (hz : xs.length ≤ 90000) (hw : ∀ x, wipe ((wipe σ vs).set j (some x)) vs = wipe σ vs) (f : V → V) (hG : ∀ H', Ex H1 H' → G H') (he : ∀ x ∈ xs, ∀ H', Ex H1 H' → Ev te ((wipe σ vs).set j (some x)) H' (f x)) (hD : H1 D = none)
    (k : ∀ H', Ex H1 H' → H' D = some (.lst (xs.map f)) → Qd H') :
    ∃ W : Nat → Nat → Hp → Prop, (∃ m, W 0 m (upd H1 D (.lst []))) ∧ ∀ i m H, W i m H →
      (J.stop i H ∧ Qd H) ∨ (J.go i H ∧ ∃ Nx : Hp → Prop, (∀ H', Nx H' → ∃ m', m' < m ∧ W (i + 1) m' H') ∧ ∀ x H', J.yld i H x H' → gName j x (wipe σ vs) H' fun σ2 H2 => wipe σ2 vs = wipe σ vs ∧ tYes σ2 H2 fun b H3 =>
        if b = true then te σ2 H3 fun y H4 => ∃ acc, H4 D = some (.lst acc) ∧ acc.length < sizeLine ∧ Nx (upd H4 D (.lst (acc ++ [y]))) else Nx H3) := by
  refine lc_it w (fun i H' => Ex H1 H' ∧ H' D = some (.lst ((xs.take i).map f))) ⟨Ex.new hD, upd_same⟩ (fun i H' _ p => hG H' p.1) ?_ (fun H' p => k H' p.1 (by rw [p.2, List.take_length]))
  intro i x H2 H3 hi p y
  obtain ⟨e, hx⟩ := hY i H2 x H3 hi y
  subst e
  obtain ⟨p1, p2⟩ := p
  refine ⟨hw x, ?_⟩
  dsimp only [tYes]
  rw [if_pos rfl]
  refine he x (List.mem_of_getElem? hx) H3 p1 H3 (Ex.refl H3) _ fun H4 e4 => ⟨(xs.take i).map f, e4 D _ p2, sz_lt (by rw [List.length_map, List.length_take]; omega), Ex.mut (p1.trans e4) hD, ?_⟩
  rw [upd_same, take_snoc hx, List.map_append]
  rfl
theorem el_mapL {a : Addr} {xs : List V} (f : V → V) (h : Ev tl σ H (.ref a)) (hx : SqL K H a xs) (hz : xs.length ≤ 90000) (hw : ∀ x, wipe ((wipe σ vs).set j (some x)) vs = wipe σ vs)
    (he : ∀ x ∈ xs, ∀ H1, Ex H H1 → Ev te ((wipe σ vs).set j (some x)) H1 (f x)) : EvL (tLc (iList K tl) (gName j) tYes te vs) σ H (xs.map f) := fun H0 e Q q =>
  h H0 e _ fun H1 e1 => ⟨a, rfl, ⟨xs, ex_l (e.trans e1) hx⟩, fun D hD => lc_map walk_list (fun _ _ _ _ _ y => y) hz hw f (fun H' e' => ex_l ((e.trans e1).trans e') hx) (fun x m H' e' => he x m H' ((e.trans e1).trans e')) hD
    (fun H' e' hd => q D H' (fresh_back e1 hD) (e1.trans e') hd)⟩
theorem el_mapNL {xs : List V} (f : V → V) (h : EvL tl σ H xs) (hz : xs.length ≤ 90000) (hw : ∀ x, wipe ((wipe σ vs).set j (some x)) vs = wipe σ vs)
    (he : ∀ x ∈ xs, ∀ H1, Ex H H1 → Ev te ((wipe σ vs).set j (some x)) H1 (f x)) : EvL (tLc (iList K tl) (gName j) tYes te vs) σ H (xs.map f) := fun H0 e Q q =>
  h H0 e _ fun a H1 _ e1 ha => ⟨a, rfl, ⟨xs, sq_of ha⟩, fun D hD => lc_map walk_list (fun _ _ _ _ _ y => y) hz hw f (fun H' e' => sq_of (e' a _ ha)) (fun x m H' e' => he x m H' ((e.trans e1).trans e')) hD
    (fun H' e' hd => q D H' (fresh_back e1 hD) (e1.trans e') hd)⟩
def sgns (z : Str) : List V := z.cps.toList.map fun c => V.str ⟨#[c]⟩
theorem sgns_at {z : Str} {i c : Nat} (h : z.cps[i]? = some c) : (sgns z)[i]? = some (.str ⟨#[c]⟩) := by
  unfold sgns
  rw [List.getElem?_map, Array.getElem?_toList, h]
  rfl
theorem sgns_len (z : Str) : (sgns z).length = z.cps.size := by
  unfold sgns
  rw [List.length_map, Array.length_toList]
theorem walk_signs (z : Str) : Walk (Its z) (sgns z).length (fun _ => True) (YAt (sgns z)) := by
  rw [sgns_len]
  exact walk_str.mono (fun _ h => h) fun i H x H' _ _ y => by
    obtain ⟨e, c, hc, rfl⟩ := y
    exact ⟨e, sgns_at hc⟩
theorem el_mapS {z : Str} (f : V → V) (h : Ev tl σ H (.str z)) (hz : z.cps.size ≤ 90000) (hw : ∀ x, wipe ((wipe σ vs).set j (some x)) vs = wipe σ vs)
    (he : ∀ c ∈ z.cps.toList, ∀ H1, Ex H H1 → Ev te ((wipe σ vs).set j (some (.str ⟨#[c]⟩))) H1 (f (.str ⟨#[c]⟩))) : EvL (tLc (iStr tl) (gName j) tYes te vs) σ H ((sgns z).map f) := fun H0 e Q q =>
  h H0 e _ fun H1 e1 => ⟨z, rfl, fun D hD => lc_map (walk_signs z) (fun _ _ _ _ _ y => y) (by rw [sgns_len]; exact hz) hw f (fun _ _ => trivial) (fun x m H' e' => by
    obtain ⟨c, hc, rfl⟩ := List.mem_map.mp m
    exact he c hc H' ((e.trans e1).trans e')) hD (fun H' e' hd => q D H' (fresh_back e1 hD) (e1.trans e') hd)⟩
end

/-! ### join, repr, str(..) -/
section
variable {K : PySem.W.Frag} {σ : L2.St} {H H1 : Hp} {te tl to : TE}
def rJoinT (K : PySem.W.Frag) : V → List V → Hp → VK → Prop := fun x xs H Q => ∃ a p, ∃ ys : List Str, x = .str a ∧ xs = [.ref p] ∧ (SqL K H p (ys.map V.str) ∨ SqT K H p (ys.map V.str)) ∧
      (ys.map (·.length)).sum + ys.length * a.length ≤ 16777216 ∧ Q (.str (Txt.join a ys)) H
theorem ev_joinL {a : Str} {ys : List Str} (ho : Ev to σ H (.str a)) (h : EvL te σ H (ys.map V.str)) (hz : (ys.map (·.length)).sum + ys.length * a.length ≤ 16777216) : Ev (tM1 (rJoinT K) to te) σ H (.str (Txt.join a ys)) := fun H0 e Q q =>
  ho H0 e _ fun H1 e1 => ⟨⟨a, rfl⟩, h H1 (e.trans e1) _ fun p H2 _ e2 hp => ⟨a, p, ys, rfl, rfl, .inl (sq_of hp), hz, q H2 (e1.trans e2)⟩⟩
theorem joinE (ys : List Str) : (Txt.join "" ys).cps.toList = (ys.map fun y => y.cps.toList).flatten := by
  have h : ∀ l : List (List Nat), TL.joinL [] l = l.flatten := by
    intro l
    induction l with
    | nil => rfl
    | cons p r ih =>
      cases r with
      | nil => simp [TL.joinL]
      | cons q r => rw [TL.joinL, ih]; rfl
  rw [TL.join_eq]
  show TL.tl _ = _
  rw [TL.tl_join]
  exact h _
theorem show_le {ns : List Int} (hl : ns.length ≤ 1000) (hb : ∀ n ∈ ns, n.natAbs < 10 ^ 100) : (PyData.list (ns.map PyData.int)).shown.length ≤ sizeLine := by
  have hs : PyData.leavesShort 101 (.list (ns.map PyData.int)) = true := by
    unfold PyData.leavesShort
    clear hl
    induction ns with
    | nil => simp [PyData.leavesShortAll]
    | cons n r ih =>
      rw [List.map_cons, PyData.leavesShortAll, ih fun m hm => hb m (List.mem_cons_of_mem _ hm), Bool.and_true, PyData.leavesShort]
      refine decide_eq_true ?_
      unfold PyData.shown
      have h := int_text_length_le10 (k := 100) (by decide) (hb n List.mem_cons_self)
      have e : (Str.ofString (toString n)).length = (toString n).length := PySem.ofString_length _
      show (Str.ofString (toString n)).length ≤ 101
      rw [e]
      exact h
  have hk := PyData.shown_le_bulk 101 (by decide) _ hs
  have hb2 : (PyData.list (ns.map PyData.int)).bulk = ns.length := by
    unfold PyData.bulk
    clear hs hk hl hb
    induction ns with
    | nil => simp [PyData.bulkAll]
    | cons n r ih =>
      rw [List.map_cons, PyData.bulkAll, PyData.bulk, ih, List.length_cons]
      omega
  rw [hb2] at hk
  rw [sizeLine_eq]
  omega
set_option exponentiation.threshold 3000 in
theorem pow_small : 10 ^ 100 ≤ 2 ^ 1920 := by decide +kernel
set_option exponentiation.threshold 3000 in
theorem log_lt {n : Int} (h : n.natAbs < 10 ^ 100) : n.natAbs.log2 < 1920 := by
  by_cases h0 : n.natAbs = 0
  · rw [h0]; decide
  · exact (Nat.log2_lt h0).mpr (Nat.lt_of_lt_of_le h pow_small)
theorem ev_reprI {a : Addr} {ns : List Int} (h : Ev te σ H (.ref a)) (hx : SqL K H a (ns.map V.int)) (hl : ns.length ≤ 1000) (hb : ∀ n ∈ ns, n.natAbs < 10 ^ 100) :
    Ev (tCB (rRepr K) (tCons te tNil)) σ H (.str (PyData.list (ns.map PyData.int)).shown) :=
  ev_cb (ea_cons h ea_nil) fun H1 e _ q => ⟨.ref a, .list (ns.map PyData.int), rfl, dp_ints (ex_l e hx), by
    rw [PyData.showable]
    exact showAll_ints ns fun n hn => log_lt (hb n hn), by
    rw [PyData.hasDict]
    exact noDict_ints ns, by
    rw [PyData.depth]
    have := depthAll_ints ns
    omega, show_le hl hb, q H1 (Ex.refl H1)⟩
end

/-! ### what is known behind a statement -/
theorem q_mid {t u : TS} {D : Ends} {σ : L2.St} {H : Hp} (M : L2.St → Hp → Prop) (mono : ∀ (N N' : L2.St → Hp → Prop), (∀ σ H, N σ H → N' σ H) → t { D with nx := N } σ H → t { D with nx := N' } σ H)
    (h : t { D with nx := M } σ H) (k : ∀ σ' H', M σ' H' → u D σ' H') : tSeq t u D σ H := mono M (u D) k h

/-! ### isinstance -/
section
variable {K : PySem.W.Frag} {H : Hp}
theorem rc_isStr {x : Str} : RC (rIsi K) [.str x, .ty "str"] H (.bl true) := fun H1 _ _ q => ⟨_, _, _, _, true, rfl, .ty "str", .base (.str x), kit_ty (by decide +kernel), q H1 (Ex.refl H1)⟩
theorem rc_isInt {i : Int} : RC (rIsi K) [.int i, .ty "int"] H (.bl true) := fun H1 _ _ q => ⟨_, _, _, _, true, rfl, .ty "int", .base (.int i), kit_ty (by decide +kernel), q H1 (Ex.refl H1)⟩
theorem rc_isIntB {i : Int} : RC (rIsi K) [.int i, .ty "bool"] H (.bl false) := fun H1 _ _ q => ⟨_, _, _, _, false, rfl, .ty "bool", .base (.int i), kit_ty (by decide +kernel), q H1 (Ex.refl H1)⟩
theorem rc_isNonS : RC (rIsi K) [.non, .ty "str"] H (.bl false) := fun H1 _ _ q => ⟨_, _, _, _, false, rfl, .ty "str", .base .non, kit_ty (by decide +kernel), q H1 (Ex.refl H1)⟩
/-- isinstance of the error that a suite holds: its class is asked in the reading -/
def rIsX (K : PySem.W.Frag) (D a : Addr) (cls : Value) (d : Option Addr) : List V → Hp → VK → Prop := fun xs H Q => cls = .ref D ∧ d = none ∧ rIsE K D a xs H Q
theorem call_isX {X : Cx} {a D : Addr} {oe : Obj} {pn : List (Addr × Obj)} {cls : Value} {d : Option Addr} (C : ExcC X.K D) (hz : Zc cls d oe) (hf : ∃ vs, oe.data = .fields vs) : CallR (X.suite a ((a, oe) :: pn)) (.builtin "isinstance") (rIsX X.K D a cls d) := by
  intro pins s σ H xs us Q I r h
  obtain ⟨rfl, rfl, h⟩ := h
  exact call_isE C hz hf pins s σ H xs us Q I r h
theorem rc_isX {D a : Addr} {c : V} {cv : Value} {b : Bool} (hc : ∀ u, RelV c u → u = cv) (hk : PySem.W.kitOne K (.ref D) cv = some b) : RC (rIsX K D a (.ref D) none) [.ref a, c] H (.bl b) := fun H1 _ _ q => ⟨rfl, rfl, c, cv, b, rfl, hc, hk, q H1 (Ex.refl H1)⟩
end

/-! ### the draws of the laws: a cell's values -/
def lvMix (cell size : Int) (k : Nat) : Int := ((((cell.fmod 2147483647) * 48271 + (k : Int) * 69621 + 7).fmod 2147483647 * 16807).fmod 2147483647).fmod size
def lvStep (cell size : Int) (st : Int × List Int) (k : Nat) : Int × List Int :=
  if st.1 ≥ 10 ^ 12 then (st.1.fdiv size, st.2 ++ [st.1.fmod size]) else (st.1, st.2 ++ [lvMix cell size k])
def lvGo (cell size : Int) (n : Nat) : Int × List Int := (List.range n).foldl (lvStep cell size) (cell, [])
theorem lvGo_succ (cell size : Int) (n : Nat) : lvGo cell size (n + 1) = lvStep cell size (lvGo cell size n) n := by
  unfold lvGo
  rw [List.range_succ, List.foldl_append]
  rfl
/-- what _law_values gives -/
def lvals (cell : Int) (n : Nat) (size : Int) : List Int := (lvGo cell size n).2
theorem lvStep_len (cell size : Int) (st : Int × List Int) (k : Nat) : (lvStep cell size st k).2.length = st.2.length + 1 := by
  unfold lvStep
  split <;> simp
theorem lvals_len (cell : Int) (n : Nat) (size : Int) : (lvals cell n size).length = n := by
  unfold lvals
  induction n with
  | zero => rfl
  | succ n ih => rw [lvGo_succ, lvStep_len, ih]
theorem lvals_in {cell size : Int} (h : 0 < size) (n : Nat) : ∀ v ∈ lvals cell n size, 0 ≤ v ∧ v < size := by
  unfold lvals
  induction n with
  | zero => intro v hv; exact absurd hv List.not_mem_nil
  | succ n ih =>
    intro v hv
    rw [lvGo_succ] at hv
    unfold lvStep lvMix at hv
    have key : ∀ x : Int, 0 ≤ x.fmod size ∧ x.fmod size < size := fun x => ⟨Int.fmod_nonneg_of_pos x h, Int.fmod_lt_of_pos x h⟩
    split at hv
    · rcases List.mem_append.mp hv with q | q
      · exact ih v q
      · rw [List.mem_singleton.mp q]; exact key _
    · rcases List.mem_append.mp hv with q | q
      · exact ih v q
      · rw [List.mem_singleton.mp q]; exact key _

/-! ### texts and their codes -/
theorem map_at {α β : Type} {f : α → β} {l : List α} {i : Nat} {x : β} (h : (l.map f)[i]? = some x) : ∃ c, l[i]? = some c ∧ x = f c := by
  rw [List.getElem?_map] at h
  cases e : l[i]? with
  | none => rw [e] at h; cases h
  | some c => rw [e] at h; exact ⟨c, rfl, (Option.some.inj h).symm⟩
theorem sgns_map (z : Str) (f : V → V) : (sgns z).map f = z.cps.toList.map fun c => f (.str ⟨#[c]⟩) := by
  unfold sgns
  rw [List.map_map]
  rfl
theorem app_toList (x y : Str) : (x ++ y).cps.toList = x.cps.toList ++ y.cps.toList := TL.tl_append x y
theorem len_size (x : Str) : x.length = x.cps.toList.length := by simp [Str.length]
theorem str_ext {x y : Str} (h : x.cps.toList = y.cps.toList) : x = y := by
  cases x; cases y
  congr
  exact Array.toList_inj.mp h
end Gd

set_option Elab.async false
set_option linter.all false
set_option maxRecDepth 100000
set_option maxHeartbeats 4000000
/-! Of our own: draws that are popped off a list; lists of ints compared; digits. -/
namespace Gd
open PySem PySem.Spec PyProof.Rows L2 Evl
/-- all but p is kept -/
def But (p : Addr) (H H' : Hp) : Prop := ∀ b o, b ≠ p → H b = some o → H' b = some o
theorem But.refl {p : Addr} {H : Hp} : But p H H := fun _ _ _ h => h
theorem But.trans {p : Addr} {H H1 H2 : Hp} (a : But p H H1) (b : But p H1 H2) : But p H H2 := fun c o n h => b c o n (a c o n h)
theorem ex_but {p : Addr} {H H' : Hp} (e : Ex H H') : But p H H' := fun b o _ h => e b o h
theorem But.upd {p : Addr} {H : Hp} {o : HO} : But p H (upd H p o) := fun b u n h => by rw [upd_ne n]; exact h
theorem But.seq {K : PySem.W.Frag} {p a : Addr} {H H' : Hp} {xs : List V} (b : But p H H') (n : a ≠ p) (h : SqL K H a xs) : SqL K H' a xs := by
  rcases h with (h | ⟨o, h⟩) | h
  · exact .inl (.inl (b _ _ n h))
  · exact .inl (.inr ⟨o, b _ _ n h⟩)
  · exact .inr h
/-- what was free is free still, seen backwards -/
theorem But.free {p a : Addr} {H H' : Hp} {o : HO} (b : But p H H') (hp : H' p = some o) (h : H' a = none) : a ≠ p ∧ H a = none := by
  have n : a ≠ p := fun e => by rw [e, hp] at h; cases h
  refine ⟨n, ?_⟩
  cases e : H a with
  | none => rfl
  | some u => rw [b a u n e] at h; cases h
def Small (ds : List Int) : Prop := (∀ d ∈ ds, 0 ≤ d ∧ d < 1000) ∧ ds.length ≤ 20000
theorem Small.nil : Small [] := ⟨fun _ h => absurd h List.not_mem_nil, Nat.zero_le _⟩
theorem Small.app {ds es : List Int} (h1 : ∀ d ∈ ds, 0 ≤ d ∧ d < 1000) (h2 : ∀ d ∈ es, 0 ≤ d ∧ d < 1000) : ∀ d ∈ ds ++ es, 0 ≤ d ∧ d < 1000 := fun d hd => (List.mem_append.mp hd).elim (h1 d) (h2 d)
theorem Small.one {ds : List Int} {x : Int} (h1 : ∀ d ∈ ds, 0 ≤ d ∧ d < 1000) (h2 : 0 ≤ x ∧ x < 1000) : ∀ d ∈ ds ++ [x], 0 ≤ d ∧ d < 1000 := Small.app h1 fun d hd => by rw [List.mem_singleton.mp hd]; exact h2
def Drw (p : Addr) (H : Hp) : Prop := ∃ ds : List Int, H p = some (.lst (ds.map V.int)) ∧ Small ds
theorem Drw.ex {p : Addr} {H H' : Hp} (d : Drw p H) (e : Ex H H') : Drw p H' := let ⟨ds, h, s⟩ := d; ⟨ds, e _ _ h, s⟩
theorem fmod_in (x : Int) {m : Int} (h : 0 < m) : 0 ≤ x.fmod m ∧ x.fmod m < m := ⟨Int.fmod_nonneg_of_pos x h, Int.fmod_lt_of_pos x h⟩

/-! ### lists of ints compared -/
section
variable {K : PySem.W.Frag} {H : Hp} {σ : L2.St} {ta tb te : TE}
theorem can_ints : ∀ ns : List Int, PyData.canLayAll0 (ns.map PyData.int) = true
  | [] => by simp [PyData.canLayAll0]
  | n :: r => by
    rw [List.map_cons, PyData.canLayAll0, can_ints r, PyData.canLay0]
    rfl
theorem shaped_ints (ns : List Int) : SeqAt.shaped (.list (ns.map PyData.int)) = true := by
  unfold SeqAt.shaped
  rw [PyData.canLay0, can_ints, PyData.depth]
  have := depthAll_ints ns
  rw [Bool.true_and]
  exact decide_eq_true (by omega)
theorem eqv_ints : ∀ ns ms : List Int, PyData.eqvAll (ns.map PyData.int) (ms.map PyData.int) = decide (ns = ms)
  | [], [] => by simp [PyData.eqvAll]
  | [], m :: r => by simp [PyData.eqvAll]
  | n :: r, [] => by simp [PyData.eqvAll]
  | n :: r, m :: q => by
    rw [List.map_cons, List.map_cons, PyData.eqvAll, eqv_ints r q, PyData.eqv]
    by_cases h : n = m
    · subst h
      by_cases h2 : r = q
      · subst h2; simp
      · simp [h2]
    · simp [h]
theorem rv_eqL {a b : Addr} {ns ms : List Int} (ha : SqL K H a (ns.map V.int)) (hb : SqL K H b (ms.map V.int)) : RV (rEqD K) (.ref a) (.ref b) H (.bl (decide (ns = ms))) := fun H1 e Q q =>
  ⟨_, _, dp_ints (ex_l e ha), dp_ints (ex_l e hb), shaped_ints ns, shaped_ints ms, by rw [PyData.eqv, eqv_ints]; exact q H1 (Ex.refl H1)⟩
theorem rv_neL {a b : Addr} {ns ms : List Int} (ha : SqL K H a (ns.map V.int)) (hb : SqL K H b (ms.map V.int)) : RV (rNeD K) (.ref a) (.ref b) H (.bl (!decide (ns = ms))) := fun H1 e Q q =>
  ⟨_, _, dp_ints (ex_l e ha), dp_ints (ex_l e hb), shaped_ints ns, shaped_ints ms, by rw [PyData.eqv, eqv_ints]; exact q H1 (Ex.refl H1)⟩
def optV : Option Int → V
  | none => .non
  | some v => .int v
/-- value or 0 -/
theorem ev_or0 {o : Option Int} (h : Ev te σ H (optV o)) : Ev (tOrT K te (tC (.int 0))) σ H (.int (o.getD 0)) := fun H1 e Q q =>
  h H1 e _ fun H2 e2 => by
    cases o with
    | none => exact ⟨false, rfl, by rw [if_neg Bool.false_ne_true]; exact q H2 e2⟩
    | some v =>
      refine ⟨v != 0, rfl, ?_⟩
      by_cases hv : v = 0
      · subst hv
        exact q H2 e2
      · rw [if_pos (by simpa using hv)]
        exact q H2 e2
def rNotNn : R2 := fun x y H Q => y = .non ∧ Q (.bl (!decide (x = .non))) H
theorem rv_notN {o : Option Int} : RV rNotNn (optV o) .non H (.bl o.isSome) := fun H1 _ _ q => ⟨rfl, by
  have e : (!decide (optV o = .non)) = o.isSome := by
    cases o with
    | none => rfl
    | some v => exact by simp [optV]
  rw [e]
  exact q H1 (Ex.refl H1)⟩
theorem ev_listN {xs : List V} {a : Addr} (h : Ev te σ H (.ref a)) (hx : SqL K H a xs) : EvL (tCB (rListS K) (tCons te tNil)) σ H xs := el_list h hx
/-- the truth of a list -/
theorem et_truL {a : Addr} {xs : List V} (h : Ev te σ H (.ref a)) (hx : SqL K H a xs) : EvT (fun σ H Q => te σ H fun x H' => ∃ k, TruV K x H' k ∧ Q k H') σ H (!xs.isEmpty) := fun H1 e Q q =>
  h H1 e _ fun H2 e2 => ⟨!xs.isEmpty, .inl ⟨xs, ex_l (e.trans e2) hx, rfl⟩, q H2 e2⟩
end

/-! ### digits read -/
def isDg (c : Int) : Bool := decide (48 ≤ c) && decide (c ≤ 57)
def rdStep (st : List Int × Option Int) (c : Int) : List Int × Option Int :=
  if isDg c = true then (st.1, some (10 * st.2.getD 0 + c - 48)) else match st.2 with
    | some v => (st.1 ++ [v], none)
    | none => st
def rdFin (st : List Int × Option Int) : List Int := match st.2 with
  | some v => st.1 ++ [v]
  | none => st.1
def nn (c : Int) : Bool := decide (0 ≤ c)
def rdGo (ns : List Int) : List Int × Option Int := ns.foldl rdStep ([], none)
def rd (ns : List Int) : List Int := rdFin (rdGo (ns.takeWhile nn))
theorem at_sh {xs : List Nat} {c o n : Int} (h0 : 0 ≤ c - o) (hn : c - o < n) (ho : 0 ≤ o) (tab : ∀ k < n.toNat, xs[k]? = some (k + o.toNat)) : atI xs (c - o) = some c.toNat := by
  have e : c - o = (((c - o).toNat : Nat) : Int) := by omega
  rw [e]
  refine atI_nat ?_
  rw [tab _ (by omega)]
  congr 1
  omega
theorem takeWhile_pos {α : Type} {f : α → Bool} {l : List α} (h : l.takeWhile f = l) : ∀ z ∈ l, f z = true := by
  have e : (l.takeWhile f).all f = true := List.all_takeWhile
  rw [h] at e
  exact List.all_eq_true.mp e
theorem tw_stop {l : List Int} {i : Nat} {c : Int} (h : l[i]? = some c) (hc : nn c = false) (ht : (l.take i).takeWhile nn = l.take i) : l.takeWhile nn = l.take i := by
  have hi := (List.getElem?_eq_some_iff.mp h).1
  have e : l = l.take i ++ c :: l.drop (i + 1) := by
    have q := List.take_append_drop i l
    rw [List.drop_eq_getElem_cons hi] at q
    have hg : l[i] = c := by rw [List.getElem?_eq_getElem hi] at h; exact Option.some.inj h
    rw [hg] at q
    exact q.symm
  have q := congrArg (List.takeWhile nn) e
  rw [List.takeWhile_append_of_pos (fun z hz => takeWhile_pos ht z hz), List.takeWhile_cons, hc] at q
  simpa using q
theorem tw_len (l : List Int) : (l.takeWhile nn).length ≤ l.length := (List.takeWhile_sublist _).length_le
theorem foldl_snoc {α β : Type} {f : β → α → β} {b : β} {l : List α} {i : Nat} {x : α} (h : l[i]? = some x) : (l.take (i + 1)).foldl f b = f ((l.take i).foldl f b) x := by
  rw [take_snoc h, List.foldl_append]
  rfl
theorem rdGo_snoc {l : List Int} {i : Nat} {x : Int} (h : l[i]? = some x) : rdGo (l.take (i + 1)) = rdStep (rdGo (l.take i)) x := foldl_snoc h
theorem rdGo_len : ∀ (l : List Int), (rdGo l).1.length ≤ l.length := by
  intro l
  have key : ∀ (l : List Int) (st : List Int × Option Int), (l.foldl rdStep st).1.length ≤ st.1.length + l.length := by
    intro l
    induction l with
    | nil => intro st; simp
    | cons c r ih =>
      intro st
      have h1 := ih (rdStep st c)
      have h2 : (rdStep st c).1.length ≤ st.1.length + 1 := by
        unfold rdStep
        split
        · simp
        · split <;> simp
      rw [List.foldl_cons, List.length_cons]
      omega
  have := key l ([], none)
  unfold rdGo
  simpa using this
end Gd
namespace Gd
open PySem PySem.Spec PyProof.Rows L2 Evl
section
variable {K : PySem.W.Frag} {H : Hp} {σ : L2.St} {ta tb te : TE} {D : Ends} {tz : TS}
theorem rc_isList {p : Addr} {xs : List V} (h : H p = some (.lst xs)) : RC (rIsi K) [.ref p, .ty "list"] H (.bl true) := fun H1 e _ q => ⟨_, _, _, _, true, rfl, .ty "list", .base (.lst (e _ _ h)), kit_ty (by decide +kernel), q H1 (Ex.refl H1)⟩
/-- xs.extend([..]) -/
theorem s_ext {l : Addr} {xs ys : List V} (hl : H l = some (.lst xs)) (ha : Ev ta σ H (.ref l)) (h : EvL te σ H ys) (hz : xs.length + ys.length ≤ 100000) (k : ∀ H1, Ex H H1 → D.nx σ (upd H1 l (.lst (xs ++ ys)))) :
    tDrop (tBM K "list" rExtend ta (tCons te tNil)) D σ H := ha H (Ex.refl H) _ fun H1 e1 =>
  ⟨Or.inl ⟨rfl, xs, sq_of (e1 l _ hl)⟩, h H1 e1 _ fun p H2 hp e2 h2 => ⟨l, p, xs, ys, rfl, rfl, e2 l _ (e1 l _ hl), h2, sz_of hz, k H2 (e1.trans e2)⟩⟩
theorem q_ext {l : Addr} {xs ys : List V} (hl : H l = some (.lst xs)) (ha : Ev ta σ H (.ref l)) (h : EvL te σ H ys) (hz : xs.length + ys.length ≤ 100000) (k : ∀ H1, Ex H H1 → tz D σ (upd H1 l (.lst (xs ++ ys)))) :
    tSeq (tDrop (tBM K "list" rExtend ta (tCons te tNil))) tz D σ H := s_ext (D := { D with nx := tz D }) hl ha h hz k
/-- xs.reverse() -/
theorem q_rev {l : Addr} {xs : List V} (hl : H l = some (.lst xs)) (ha : Ev ta σ H (.ref l)) (k : ∀ H1, Ex H H1 → tz D σ (upd H1 l (.lst xs.reverse))) : tSeq (tDrop (tBM0 K "list" rReverse ta)) tz D σ H :=
  ha H (Ex.refl H) _ fun H1 e1 => ⟨Or.inl ⟨rfl, xs, sq_of (e1 l _ hl)⟩, l, xs, rfl, rfl, e1 l _ hl, k H1 e1⟩
/-- a + b, both lists -/
theorem el_cat {a : Addr} {xs ys : List V} (ha : Ev ta σ H (.ref a)) (hx : H a = some (.lst xs)) (hb : EvL tb σ H ys) (hz : xs.length + ys.length ≤ 100000) : EvL (tOp rCat ta tb) σ H (xs ++ ys) := fun H1 e Q q =>
  ha H1 e _ fun H2 e2 => hb H2 (e.trans e2) _ fun b H3 _ e3 h3 => ⟨a, b, xs, ys, rfl, rfl, e3 _ _ (e2 _ _ (e _ _ hx)), h3, sz_of hz, fun p hp => q p _ (fresh_back (e2.trans e3) hp) ((e2.trans e3).trans (Ex.new hp)) upd_same⟩
def rIntS : List V → Hp → VK → Prop := fun xs H Q => ∃ a n, xs = [.str a] ∧ PySem.intText? a = some n ∧ a.length ≤ 640 ∧ Q (.int n) H
theorem rc_intS {z : Str} {n : Int} (h : PySem.intText? z = some n) (hz : z.length ≤ 640) : RC rIntS [.str z] H (.int n) := fun H1 _ _ q => ⟨z, n, rfl, h, hz, q H1 (Ex.refl H1)⟩
theorem but_mut {p q : Addr} {H H' : Hp} {o : HO} (b : But p H H') (h : q = p) : But p H (upd H' q o) := fun c u n e => by
  rw [h, upd_ne n]
  exact b c u n e
end
end Gd
namespace Gd
open PySem PySem.Spec PyProof.Rows L2 Evl
/-! ### values that are not told, but bounded: what draws give -/
def EvP (te : TE) (σ : L2.St) (H : Hp) (P : V → Hp → Prop) : Prop := ∀ Q : VK, (∀ v H', P v H' → Q v H') → te σ H Q
def EtP (tt : TT) (σ : L2.St) (H : Hp) (P : Bool → Hp → Prop) : Prop := ∀ Q : Bool → Hp → Prop, (∀ b H', P b H' → Q b H') → tt σ H Q
/-- a drawn int d that keeps C; the draws at p have turned, all else stands -/
def DP (p : Addr) (H : Hp) (C : Int → Prop) : V → Hp → Prop := fun v H' => ∃ d : Int, v = .int d ∧ C d ∧ Drw p H' ∧ But p H H'
section
variable {K : PySem.W.Frag} {H : Hp} {σ : L2.St} {ta tb te : TE} {tt t u : TT} {D : Ends} {tu tz : TS} {P P1 : V → Hp → Prop} {p : Addr} {C C1 : Int → Prop}
theorem EvP.imp {P' : V → Hp → Prop} (h : EvP te σ H P) (k : ∀ v H', P v H' → P' v H') : EvP te σ H P' := fun Q q => h Q fun v H' z => q v H' (k v H' z)
theorem ep_of {v : V} (h : Ev te σ H v) : EvP te σ H (fun v' H' => v' = v ∧ Ex H H') := fun Q q => h H (Ex.refl H) Q fun H2 e2 => q v H2 ⟨rfl, e2⟩
theorem q_asgP {i : Nat} (h : EvP te σ H P) (k : ∀ v H', P v H' → tz D (σ.set i (some v)) H') : tSeq (tAsg te (gName i)) tz D σ H := h _ k
theorem s_asgP {i : Nat} (h : EvP te σ H P) (k : ∀ v H', P v H' → D.nx (σ.set i (some v)) H') : tAsg te (gName i) D σ H := h _ k
theorem s_retP (h : EvP te σ H P) (k : ∀ v H', P v H' → D.rt v H') : tRet te D σ H := h _ k
theorem ep_op {r : R2} (ha : EvP ta σ H P1) (hb : ∀ x H1, P1 x H1 → EvP tb σ H1 (fun y H2 => ∀ Q : VK, (∀ v H', P v H' → Q v H') → r x y H2 Q)) : EvP (tOp r ta tb) σ H P := fun Q q =>
  ha _ fun x H1 p1 => hb x H1 p1 _ fun y H2 h2 => h2 Q q
/-- i op (a drawn one) -/
theorem ep_opD {r : R2} {x : V} {g : Int → Int} (ha : Ev ta σ H x) (hb : ∀ H1, Ex H H1 → EvP tb σ H1 (DP p H1 C)) (hr : ∀ d H2 (Q : VK), C d → Q (.int (g d)) H2 → r x (.int d) H2 Q) (hC : ∀ d, C d → C1 (g d)) : EvP (tOp r ta tb) σ H (DP p H C1) := fun Q q =>
  ha H (Ex.refl H) _ fun H1 e1 => hb H1 e1 _ fun y H2 ⟨d, hv, hc, hD, b⟩ => by
    subst hv
    exact hr d H2 Q hc (q _ H2 ⟨g d, rfl, hC d hc, hD, (ex_but e1).trans b⟩)
/-- (a drawn one) op j -/
theorem ep_opL {r : R2} {y : V} {g : Int → Int} (ha : EvP ta σ H (DP p H C)) (hb : ∀ H1, Ev tb σ H1 y) (hr : ∀ d H2 (Q : VK), C d → Q (.int (g d)) H2 → r (.int d) y H2 Q) (hC : ∀ d, C d → C1 (g d)) : EvP (tOp r ta tb) σ H (DP p H C1) := fun Q q =>
  ha _ fun x H1 ⟨d, hv, hc, hD, b⟩ => by
    subst hv
    exact hb H1 H1 (Ex.refl H1) _ fun H2 e2 => hr d H2 Q hc (q _ H2 ⟨g d, rfl, hC d hc, hD.ex e2, b.trans (ex_but e2)⟩)
/-- two drawn ones -/
theorem ep_opDD {r : R2} {C2 : Int → Prop} {g : Int → Int → Int} (ha : EvP ta σ H (DP p H C)) (hb : ∀ H1, Drw p H1 → EvP tb σ H1 (DP p H1 C2)) (hr : ∀ d e H2 (Q : VK), C d → C2 e → Q (.int (g d e)) H2 → r (.int d) (.int e) H2 Q) (hC : ∀ d e, C d → C2 e → C1 (g d e)) : EvP (tOp r ta tb) σ H (DP p H C1) := fun Q q =>
  ha _ fun x H1 ⟨d, hv, hc, hD, b⟩ => by
    subst hv
    exact hb H1 hD _ fun y H2 ⟨e, hv2, hc2, hD2, b2⟩ => by
      subst hv2
      exact hr d e H2 Q hc hc2 (q _ H2 ⟨g d e, rfl, hC d e hc hc2, hD2, b.trans b2⟩)
/-- for k in range(drawn) -/
theorem q_forRP {j : Nat} (h : EvP te σ H P) (k : ∀ v H1, P v H1 → ∃ n : Nat, v = .int (n : Int) ∧ n ≤ 100000 ∧ ∃ Pv : Nat → L2.St → Hp → Prop, Pv 0 σ H1 ∧
    (∀ (i : Nat) σ' H', i < n → Pv i σ' H' → tu { D with nx := Pv (i + 1), ct := Pv (i + 1), bk := tz D } (σ'.set j (some (.int (i : Int)))) H') ∧ ∀ σ' H', Pv n σ' H' → tz D σ' H') :
    tSeq (tFor (iRng1 (tCons te tNil)) (gName j) tu) tz D σ H := h _ fun v H1 hv => by
  obtain ⟨n, rfl, hn, Pv, h0, hs, hd⟩ := k v H1 hv
  refine ⟨(n : Int), rfl, by omega, by omega, for_range (D := { D with nx := tz D }) (lo := 0) (n := n) Pv h0 (fun i σ' H' hi q => ?_) hd⟩
  have e0 : (0 : Int) + (i : Int) = (i : Int) := Int.zero_add _
  show tu { D with nx := Pv (i + 1), ct := Pv (i + 1), bk := tz D } (σ'.set j (some (.int ((0 : Int) + (i : Int))))) H'
  rw [e0]
  exact hs i σ' H' hi q
/-- the same, at a body's end -/
theorem s_forRP {j : Nat} (h : EvP te σ H P) (k : ∀ v H1, P v H1 → ∃ n : Nat, v = .int (n : Int) ∧ n ≤ 100000 ∧ ∃ Pv : Nat → L2.St → Hp → Prop, Pv 0 σ H1 ∧
    (∀ (i : Nat) σ' H', i < n → Pv i σ' H' → tu { D with nx := Pv (i + 1), ct := Pv (i + 1), bk := D.nx } (σ'.set j (some (.int (i : Int)))) H') ∧ ∀ σ' H', Pv n σ' H' → D.nx σ' H') :
    tFor (iRng1 (tCons te tNil)) (gName j) tu D σ H := q_forRP (tz := fun D => D.nx) (D := D) h k
/-- l.append(drawn) -/
theorem s_appP {l : Addr} {xs : List V} (ha : Ev ta σ H (.ref l)) (hl : H l = some (.lst xs)) (hz : xs.length < 100000) (h : ∀ H1, Ex H H1 → EvP te σ H1 P) (k : ∀ v H1, P v H1 → H1 l = some (.lst xs) ∧ D.nx σ (upd H1 l (.lst (xs ++ [v])))) :
    tDrop (tBM K "list" rAppend ta (tCons te tNil)) D σ H := ha H (Ex.refl H) _ fun H1 e1 =>
  ⟨Or.inl ⟨rfl, xs, sq_of (e1 l _ hl)⟩, h H1 e1 _ fun v H2 hv => ⟨l, xs, v, rfl, rfl, (k v H2 hv).1, sz_lt hz, (k v H2 hv).2⟩⟩
/-- tests -/
theorem etp_of {b : Bool} (h : EvT tt σ H b) : EtP tt σ H (fun b' H' => b' = b ∧ Ex H H') := fun Q q => h H (Ex.refl H) Q fun H2 e2 => q b H2 ⟨rfl, e2⟩
theorem etp_cmpD {r : R2} {y : V} {P2 : Bool → Hp → Prop} (ha : EvP ta σ H (DP p H C)) (hb : ∀ H1, Ev tb σ H1 y) (hr : ∀ d H2 (Q : VK), C d → (∀ b, Q (.bl b) H2) → r (.int d) y H2 Q) (k : ∀ b H', Drw p H' → But p H H' → P2 b H') : EtP (tTest (tOp r ta tb)) σ H P2 := fun Q q =>
  ha _ fun x H1 ⟨d, hv, hc, hD, b⟩ => by
    subst hv
    exact hb H1 H1 (Ex.refl H1) _ fun H2 e2 => hr d H2 _ hc fun b' => ⟨b', rfl, q b' H2 (k b' H2 (hD.ex e2) (b.trans (ex_but e2)))⟩
theorem etp_and {P1 P2 : Bool → Hp → Prop} (h1 : EtP t σ H P1) (h2 : ∀ H', P1 true H' → EtP u σ H' P2) (h3 : ∀ H', P1 false H' → P2 false H') : EtP (tAnd t u) σ H P2 := fun Q q =>
  h1 _ fun b H' hb => by
    cases b with
    | true => exact h2 H' hb Q q
    | false => exact q false H' (h3 H' hb)
theorem s_whenP {P2 : Bool → Hp → Prop} (h : EtP t σ H P2) (h1 : ∀ H', P2 true H' → tu D σ H') (h2 : ∀ H', P2 false H' → D.nx σ H') : tIfS t tu tNext D σ H := h _ fun b H' hb => by
  cases b with
  | true => exact h1 H' hb
  | false => exact h2 H' hb
/-- l[drawn] = e, e drawn -/
theorem s_setP {l : Addr} {to ti : TE} {P2 : V → Hp → Prop} (h : EvP te σ H P1) (ho : ∀ H1, Ev to σ H1 (.ref l)) (hi : ∀ v H1, P1 v H1 → ∀ H2, Ex H1 H2 → EvP ti σ H2 (P2))
    (k : ∀ v H1 H2 i H3, P1 v H1 → Ex H1 H2 → P2 i H3 → ∃ xs n j, i = .int n ∧ H3 l = some (.lst xs) ∧ ixN xs.length n = some j ∧ D.nx σ (upd H3 l (.lst (xs.set j v)))) : tAsg te (gSub to ti rSetL) D σ H := h _ fun v H1 hv =>
  ho H1 H1 (Ex.refl H1) _ fun H2 e2 => hi v H1 hv H2 e2 _ fun i H3 hi3 => by
    obtain ⟨xs, n, j, rfl, hl, hj, q⟩ := k v H1 H2 i H3 hv e2 hi3
    exact ⟨l, xs, n, j, rfl, rfl, hl, hj, q⟩
theorem dp_bk {p : Addr} {H H1 : Hp} {C C1 : Int → Prop} {v : V} {H' : Hp} (h : DP p H1 C v H') (b : But p H H1) (hC : ∀ d, C d → C1 d) : DP p H C1 v H' := let ⟨d, hv, hc, hD, b2⟩ := h; ⟨d, hv, hC d hc, hD, b.trans b2⟩
theorem ixN_of {n : Nat} {d : Int} (h0 : 0 ≤ d) (h1 : d < (n : Int)) : ixN n d = some d.toNat := by
  have e : d = ((d.toNat : Nat) : Int) := by omega
  rw [e]
  exact ixN_nat (by omega)
end
end Gd

set_option Elab.async false
set_option linter.all false
set_option maxRecDepth 100000
set_option maxHeartbeats 4000000
/-! Of our own: attributes, methods and dicts, by what evaluates. -/
namespace Gd
open PySem PySem.Spec PyProof.Rows L2 Evl
section
variable {K : PySem.W.Frag} {H : Hp} {σ : L2.St} {ta tb te tv td ty : TE} {t : TA} {D : Ends} {tz : TS} {a C dx : Addr} {fs : List (Str × V)} {f m : Str} {x y v z : V}
theorem ev_fld (h : Ev ta σ H (.ref a)) (ho : H a = some (.ins C dx fs)) (hc : Cls K C) (hn : NoAttr K C f) (hl : fs.lookup f = some v) : Ev (tFld K ta f) σ H v := fun H1 e Q q =>
  h H1 e _ fun H2 e2 => ⟨a, C, dx, fs, v, rfl, e2 _ _ (e _ _ ho), hc, hn, hl, q H2 e2⟩
theorem s_fld (hv : Ev tv σ H y) (ha : Ev ta σ H (.ref a)) (ho : H a = some (.ins C dx fs)) (hc : Cls K C) (hn : NoAttr K C f) (hz : fs.length < 1000) (k : ∀ H1, Ex H H1 → D.nx σ (upd H1 a (.ins C dx (putF f y fs)))) : sFld K ta tv f D σ H :=
  hv H (Ex.refl H) _ fun H1 e1 => ha H1 e1 _ fun H2 e2 => ⟨a, C, dx, fs, rfl, e2 _ _ (e1 _ _ ho), hc, hn, hz, k H2 (e1.trans e2)⟩
theorem q_fld (hv : Ev tv σ H y) (ha : Ev ta σ H (.ref a)) (ho : H a = some (.ins C dx fs)) (hc : Cls K C) (hn : NoAttr K C f) (hz : fs.length < 1000) (k : ∀ H1, Ex H H1 → tz D σ (upd H1 a (.ins C dx (putF f y fs)))) : tSeq (sFld K ta tv f) tz D σ H :=
  s_fld (D := { D with nx := tz D }) hv ha ho hc hn hz k
/-- o.f = [..], a new list -/
theorem s_fldL {xs : List V} (hv : EvL tv σ H xs) (ha : Ev ta σ H (.ref a)) (ho : H a = some (.ins C dx fs)) (hc : Cls K C) (hn : NoAttr K C f) (hz : fs.length < 1000) (k : ∀ p H1, H p = none → Ex H H1 → H1 p = some (.lst xs) → D.nx σ (upd H1 a (.ins C dx (putF f (.ref p) fs)))) : sFld K ta tv f D σ H :=
  hv H (Ex.refl H) _ fun p H1 hp e1 h1 => ha H1 e1 _ fun H2 e2 => ⟨a, C, dx, fs, rfl, e2 _ _ (e1 _ _ ho), hc, hn, hz, k p H2 hp (e1.trans e2) (e2 _ _ h1)⟩
theorem q_fldL {xs : List V} (hv : EvL tv σ H xs) (ha : Ev ta σ H (.ref a)) (ho : H a = some (.ins C dx fs)) (hc : Cls K C) (hn : NoAttr K C f) (hz : fs.length < 1000) (k : ∀ p H1, H p = none → Ex H H1 → H1 p = some (.lst xs) → tz D σ (upd H1 a (.ins C dx (putF f (.ref p) fs)))) : tSeq (sFld K ta tv f) tz D σ H :=
  s_fldL (D := { D with nx := tz D }) hv ha ho hc hn hz k
/-- o.f += e, ints -/
theorem s_fldaug {i j : Int} (ha : Ev ta σ H (.ref a)) (ho : H a = some (.ins C dx fs)) (hc : Cls K C) (hn : NoAttr K C f) (hl : fs.lookup f = some (.int i)) (hv : ∀ H1, Ex H H1 → Ev tv σ H1 (.int j)) (hz : fs.length < 1000) (k : ∀ H1, Ex H H1 → D.nx σ (upd H1 a (.ins C dx (putF f (.int (i + j)) fs)))) : sFldAug K ta tv L2.rAdd f D σ H :=
  ha H (Ex.refl H) _ fun H1 e1 => ⟨a, C, dx, fs, .int i, rfl, e1 _ _ ho, hc, hn, hl, hv H1 e1 H1 (Ex.refl H1) _ fun H2 e2 => ⟨i, j, rfl, rfl, dx, fs, e2 _ _ (e1 _ _ ho), hz, k H2 (e1.trans e2)⟩⟩
theorem q_fldaug {i j : Int} (ha : Ev ta σ H (.ref a)) (ho : H a = some (.ins C dx fs)) (hc : Cls K C) (hn : NoAttr K C f) (hl : fs.lookup f = some (.int i)) (hv : ∀ H1, Ex H H1 → Ev tv σ H1 (.int j)) (hz : fs.length < 1000) (k : ∀ H1, Ex H H1 → tz D σ (upd H1 a (.ins C dx (putF f (.int (i + j)) fs)))) : tSeq (sFldAug K ta tv L2.rAdd f) tz D σ H :=
  s_fldaug (D := { D with nx := tz D }) ha ho hc hn hl hv hz k
/-- o.m(..) -/
theorem ep_meth {sp : Sp} {E : XK} {vs : List V} {P : V → Hp → Prop} (ha : Ev ta σ H (.ref a)) (ho : H a = some (.ins C dx fs)) (hl : fs.lookup m = none) (ht : EvA t σ H vs) (hs : ∀ H1, Ex H H1 → ∀ Q : VK, (∀ v H', P v H' → Q v H') → sp (.ref a :: (vs ++ [])) H1 Q E) : EvP (tMeth C m sp [] E ta t) σ H P := fun Q q =>
  ha H (Ex.refl H) _ fun H1 e1 => ⟨a, dx, fs, rfl, e1 _ _ ho, hl, ht H1 e1 _ fun H2 e2 => hs H2 (e1.trans e2) Q q⟩
theorem ep_call {sp : Sp} {E : XK} {vs dvs : List V} {P : V → Hp → Prop} (ht : EvA t σ H vs) (hs : ∀ H1, Ex H H1 → ∀ Q : VK, (∀ v H', P v H' → Q v H') → sp (vs ++ dvs) H1 Q E) : EvP (tCall sp dvs E t) σ H P := fun Q q => ht H (Ex.refl H) _ fun H1 e1 => hs H1 e1 Q q
theorem q_dropP {P : V → Hp → Prop} (h : EvP te σ H P) (k : ∀ v H', P v H' → tz D σ H') : tSeq (tDrop te) tz D σ H := h _ k
theorem s_dropP {P : V → Hp → Prop} (h : EvP te σ H P) (k : ∀ v H', P v H' → D.nx σ H') : tDrop te D σ H := h _ k
/-- the truth of a bool that is read as any value -/
theorem et_truB {b : Bool} (h : Ev te σ H (.bl b)) : EvT (fun σ H Q => te σ H fun x H' => ∃ k, TruV K x H' k ∧ Q k H') σ H b := fun H1 e Q q => h H1 e _ fun H2 e2 => ⟨b, rfl, q H2 e2⟩
/-- d[k], d[k] = v -/
theorem ev_dget {kvs : List (Key × V)} {k : Key} (h : Ev td σ H (.ref a)) (hk : Ev ty σ H (kV k)) (hd : H a = some (.dK kvs)) (hv : valV kvs k = some v) : Ev (tDGet td ty) σ H v := fun H1 e Q q =>
  h H1 e _ fun H2 e2 => hk H2 (e.trans e2) _ fun H3 e3 => ⟨a, v, rfl, by rw [← hv]; exact DGet.k (e3 _ _ (e2 _ _ (e _ _ hd))), q H3 (e2.trans e3)⟩
theorem s_dput {kvs : List (Key × V)} {k : Key} (hv : Ev tv σ H v) (h : Ev td σ H (.ref a)) (hk : Ev ty σ H (kV k)) (hd : H a = some (.dK kvs)) (hz : kvs.length < 1000) (q : ∀ H1, Ex H H1 → D.nx σ (upd H1 a (.dK (putK kvs k v)))) : sDPut td ty tv D σ H :=
  hv H (Ex.refl H) _ fun H1 e1 => h H1 e1 _ fun H2 e2 => hk H2 (e1.trans e2) _ fun H3 e3 => ⟨a, _, rfl, DPut.k (e3 _ _ (e2 _ _ (e1 _ _ hd))) (Nat.lt_of_lt_of_le hz (by decide)), q H3 ((e1.trans e2).trans e3)⟩
theorem q_dput {kvs : List (Key × V)} {k : Key} (hv : Ev tv σ H v) (h : Ev td σ H (.ref a)) (hk : Ev ty σ H (kV k)) (hd : H a = some (.dK kvs)) (hz : kvs.length < 1000) (q : ∀ H1, Ex H H1 → tz D σ (upd H1 a (.dK (putK kvs k v)))) : tSeq (sDPut td ty tv) tz D σ H :=
  s_dput (D := { D with nx := tz D }) hv h hk hd hz q
end
end Gd
namespace Gd
open PySem PySem.Spec PyProof.Rows L2 Evl
/-- [..][drawn] -/
theorem ep_ixD {K : PySem.W.Frag} {H : Hp} {σ : L2.St} {ta tb : TE} {p : Addr} {C1 : Int → Prop} {ms : List Int} (hl : EvL ta σ H (ms.map V.int)) (hD : Drw p H) (hb : ∀ H1, Ex H H1 → EvP tb σ H1 (DP p H1 fun d => 0 ≤ d ∧ d < (ms.length : Int))) (hC : ∀ m ∈ ms, C1 m) :
    EvP (tOp (rIxL K) ta tb) σ H (DP p H C1) := fun Q q =>
  hl H (Ex.refl H) _ fun l H1 hl0 e1 h1 => hb H1 e1 _ fun v H2 ⟨d, hv, hd, hD2, b⟩ => by
    subst hv
    have nlp : l ≠ p := fun e => by
      obtain ⟨ds, h, _⟩ := hD
      rw [e, h] at hl0
      cases hl0
    obtain ⟨j, rfl⟩ : ∃ j : Nat, d = (j : Int) := ⟨d.toNat, by omega⟩
    have hlt : j < ms.length := by omega
    refine ⟨l, ms.map V.int, (j : Int), .int ms[j], rfl, rfl, sq_of (b _ _ nlp h1), atI_nat ?_, q _ H2 ⟨_, rfl, hC _ (List.getElem_mem _), hD2, (ex_but e1).trans b⟩⟩
    rw [List.getElem?_map, List.getElem?_eq_getElem hlt]
    rfl
theorem s_retPL {K : PySem.W.Frag} {te : TE} {σ : L2.St} {H : Hp} {D : Ends} {P : V → Hp → Prop} (h : EvP te σ H P) (k : ∀ v H', P v H' → D.rt v H') : tRet te D σ H := h _ k
end Gd

set_option Elab.async false
set_option linter.all false
set_option maxRecDepth 100000
set_option maxHeartbeats 4000000
/-! Of our own: tests that change the heap, slices of int lists, lists of int lists. -/
namespace Gd
open PySem PySem.Spec PyProof.Rows L2 Evl
section
variable {K : PySem.W.Frag} {H : Hp} {σ : L2.St} {ta tb te : TE} {t u : TT} {D : Ends} {tz tu : TS}
theorem rc_isBool {b : Bool} : RC (rIsi K) [.bl b, .ty "bool"] H (.bl true) := fun H1 _ _ q => ⟨_, _, _, _, true, rfl, .ty "bool", .base (.bl b), kit_ty (by decide +kernel), q H1 (Ex.refl H1)⟩
theorem etp_or {P1 P2 : Bool → Hp → Prop} (h1 : EtP t σ H P1) (h3 : ∀ H', P1 true H' → P2 true H') (h2 : ∀ H', P1 false H' → EtP u σ H' P2) : EtP (tOr t u) σ H P2 := fun Q q =>
  h1 _ fun b H' hb => by
    cases b with
    | true => exact q true H' (h3 H' hb)
    | false => exact h2 H' hb Q q
theorem etp_op {r : R2} {P : V → Hp → Prop} {P2 : Bool → Hp → Prop} (ha : EvP ta σ H P) (hb : ∀ v H1, P v H1 → ∃ y b, Ev tb σ H1 y ∧ RV r v y H1 (.bl b) ∧ ∀ H', Ex H1 H' → P2 b H') : EtP (tTest (tOp r ta tb)) σ H P2 := fun Q q =>
  ha _ fun v H1 hv => by
    obtain ⟨y, b, h2, h3, h4⟩ := hb v H1 hv
    exact h2 H1 (Ex.refl H1) _ fun H2 e2 => h3 H2 e2 _ fun H3 e3 => ⟨b, rfl, q b H3 (h4 H3 (e2.trans e3))⟩
theorem etp_imp {P1 P2 : Bool → Hp → Prop} (h1 : EtP t σ H P1) (k : ∀ b H', P1 b H' → P2 b H') : EtP t σ H P2 := fun Q q => h1 Q fun b H' hb => q b H' (k b H' hb)
theorem etp_not {P1 P2 : Bool → Hp → Prop} (h1 : EtP t σ H P1) (k : ∀ b H', P1 b H' → P2 (!b) H') : EtP (tNot t) σ H P2 := fun Q q => h1 _ fun b H' hb => q (!b) H' (k b H' hb)
theorem etp_B {P : V → Hp → Prop} {P2 : Bool → Hp → Prop} (h : EvP te σ H P) (k : ∀ v H', P v H' → ∃ b, v = .bl b ∧ P2 b H') : EtP (tB te) σ H P2 := fun Q q => h _ fun v H' hv => by
  obtain ⟨b, rfl, hb⟩ := k v H' hv
  exact ⟨b, rfl, q b H' hb⟩
theorem q_whenP {P2 : Bool → Hp → Prop} (h : EtP t σ H P2) (h1 : ∀ H', P2 true H' → tu { D with nx := tz D } σ H') (h2 : ∀ H', P2 false H' → tz D σ H') : tSeq (tIfS t tu tNext) tz D σ H := s_whenP (D := { D with nx := tz D }) h h1 h2
theorem cut_ints (cs : List Int) (i j : Nat) : cutV (cs.map V.int) (some (i : Int)) (some (j : Int)) = ((cs.drop i).take (j - i)).map V.int := by
  unfold cutV
  rw [HT.sIx_nat, HT.sIx_nat, List.length_map, ← List.map_drop, ← List.map_take]
  congr 1
  rcases Nat.lt_or_ge cs.length i with h | h
  · rw [List.drop_eq_nil_of_le (by omega), List.drop_eq_nil_of_le (by omega), List.take_nil, List.take_nil]
  · rw [Nat.min_eq_left h]
    rcases Nat.lt_or_ge cs.length j with g | g
    · rw [Nat.min_eq_right (by omega), List.take_of_length_le (by rw [List.length_drop]; omega), List.take_of_length_le (by rw [List.length_drop]; omega)]
    · rw [Nat.min_eq_left g]
theorem cut_from (cs : List Int) (i : Nat) : cutV (cs.map V.int) (some (i : Int)) none = (cs.drop i).map V.int := by
  unfold cutV
  rw [HT.sIx_nat, HT.sIx_none, List.length_map, ← List.map_drop, ← List.map_take]
  congr 1
  rcases Nat.lt_or_ge cs.length i with h | h
  · rw [List.drop_eq_nil_of_le (by omega), List.drop_eq_nil_of_le (by omega), List.take_nil]
  · rw [Nat.min_eq_left h, List.take_of_length_le (by rw [List.length_drop]; omega)]
/-- lists of int lists -/
def Pcs (H : Hp) : List Addr → List (List Int) → Prop
  | [], [] => True
  | a :: as, l :: ls => H a = some (.lst (l.map V.int)) ∧ Pcs H as ls
  | _, _ => False
theorem Pcs.keep {H H' : Hp} : ∀ {as : List Addr} {ls : List (List Int)}, Pcs H as ls → (∀ a o, a ∈ as → H a = some o → H' a = some o) → Pcs H' as ls
  | [], [], _, _ => trivial
  | a :: as, l :: ls, h, k => ⟨k a _ (List.mem_cons_self) h.1, Pcs.keep h.2 fun b o m => k b o (List.mem_cons_of_mem _ m)⟩
  | [], _ :: _, h, _ => h.elim
  | _ :: _, [], h, _ => h.elim
theorem Pcs.ex {H H' : Hp} {as : List Addr} {ls : List (List Int)} (h : Pcs H as ls) (e : Ex H H') : Pcs H' as ls := h.keep fun a o _ => e a o
theorem Pcs.len {H : Hp} : ∀ {as : List Addr} {ls : List (List Int)}, Pcs H as ls → as.length = ls.length
  | [], [], _ => rfl
  | a :: as, l :: ls, h => by rw [List.length_cons, List.length_cons, h.2.len]
  | [], _ :: _, h => h.elim
  | _ :: _, [], h => h.elim
theorem Pcs.snoc {H : Hp} : ∀ {as : List Addr} {ls : List (List Int)} {a : Addr} {l : List Int}, Pcs H as ls → H a = some (.lst (l.map V.int)) → Pcs H (as ++ [a]) (ls ++ [l])
  | [], [], _, _, _, h => ⟨h, trivial⟩
  | b :: as, m :: ls, _, _, g, h => ⟨g.1, g.2.snoc h⟩
  | [], _ :: _, _, _, g, _ => g.elim
  | _ :: _, [], _, _, g, _ => g.elim
theorem Pcs.at {H : Hp} : ∀ {as : List Addr} {ls : List (List Int)}, Pcs H as ls → ∀ i, i < as.length → ∃ a l, as[i]? = some a ∧ ls[i]? = some l ∧ a ∈ as ∧ H a = some (.lst (l.map V.int))
  | [], [], _, i, h => absurd h (Nat.not_lt_zero i)
  | a :: as, l :: ls, h, 0, _ => ⟨a, l, rfl, rfl, List.mem_cons_self, h.1⟩
  | a :: as, l :: ls, h, i + 1, g => by
    obtain ⟨b, m, h1, h2, h3, h4⟩ := h.2.at i (by simpa using g)
    exact ⟨b, m, by rw [List.getElem?_cons_succ]; exact h1, by rw [List.getElem?_cons_succ]; exact h2, List.mem_cons_of_mem _ h3, h4⟩
  | [], _ :: _, h, _, _ => h.elim
  | _ :: _, [], h, _, _ => h.elim
theorem Pcs.some {H : Hp} : ∀ {as : List Addr} {ls : List (List Int)}, Pcs H as ls → ∀ a ∈ as, ∃ o, H a = some o
  | [], [], _, a, h => nomatch h
  | b :: as, l :: ls, h, a, m => by
    rcases List.mem_cons.mp m with rfl | m
    · exact ⟨_, h.1⟩
    · exact h.2.some a m
  | [], _ :: _, h, _, _ => h.elim
  | _ :: _, [], h, _, _ => h.elim
/-- all but the given addresses keep what they hold -/
def Bu (L : List Addr) (H H' : Hp) : Prop := ∀ b o, b ∉ L → H b = some o → H' b = some o
theorem Bu.refl {L : List Addr} {H : Hp} : Bu L H H := fun _ _ _ h => h
theorem Bu.trans {L : List Addr} {H H1 H2 : Hp} (a : Bu L H H1) (b : Bu L H1 H2) : Bu L H H2 := fun c o n h => b c o n (a c o n h)
theorem Bu.mono {L L' : List Addr} {H H' : Hp} (b : Bu L H H') (m : ∀ a ∈ L, a ∈ L') : Bu L' H H' := fun c o n h => b c o (fun g => n (m c g)) h
theorem ex_bu {L : List Addr} {H H' : Hp} (e : Ex H H') : Bu L H H' := fun b o _ h => e b o h
theorem Bu.upd {L : List Addr} {H H' : Hp} {a : Addr} {o : HO} (b : Bu L H H') (m : a ∈ L ∨ H a = none) : Bu L H (upd H' a o) := fun c u n h => by
  rcases m with m | m
  · rw [upd_ne (fun e => n (by rw [e]; exact m))]
    exact b c u n h
  · rw [upd_ne (ne_of_none h m)]
    exact b c u n h
theorem el_callL {sp : Sp} {dvs xs ys : List V} {E : XK} (h : EvL te σ H xs) (hs : ∀ p H1, H1 p = some (.lst xs) → Ex H H1 → SpL sp ([.ref p] ++ dvs) H1 ys) : EvL (tCall sp dvs E (tCons te tNil)) σ H ys := fun H0 e Q q =>
  h H0 e _ fun p H1 _ e1 hp => hs p H1 hp (e.trans e1) H1 (Ex.refl H1) Q (fun p' H2 hp' e2 h2 => q p' H2 (fresh_back e1 hp') (e1.trans e2) h2) E
theorem len_flat {α : Type} {ps : List (List α)} {i : Nat} {l : List α} (h : ps[i]? = some l) : l.length ≤ ps.flatten.length := by
  induction ps generalizing i with
  | nil => simp at h
  | cons a r ih =>
    rw [List.flatten_cons, List.length_append]
    cases i with
    | zero => simp at h; subst h; omega
    | succ i => have := ih (by simpa using h); omega
theorem len_take_flat {α : Type} (ps : List (List α)) (i : Nat) : (ps.take i).flatten.length ≤ ps.flatten.length := by
  have h := congrArg List.length (congrArg List.flatten (List.take_append_drop i ps))
  rw [List.flatten_append, List.length_append] at h
  omega
theorem take_snocF {α : Type} {ps : List (List α)} {i : Nat} {l : List α} (h : ps[i]? = some l) : (ps.take (i + 1)).flatten = (ps.take i).flatten ++ l := by
  rw [List.take_succ, h]
  simp
end
end Gd

set_option Elab.async false
set_option linter.all false
set_option maxRecDepth 100000
set_option maxHeartbeats 4000000
/-! Of our own: a dict of the top whose keys are ints; keyword-only parameters. -/
namespace Gd
open PySem PySem.Spec PyProof.Rows L2 Evl
/-- the pairs of a dict with int keys, where it is one -/
def ikeys : List DictEntry → Option (List (Int × Value))
  | [] => some []
  | e :: r => match e.key with
    | .int k _ => if e.hash == hashInt k then (ikeys r).map fun l => (k, e.val) :: l else none
    | _ => none
theorem ikeys_all : ∀ {es : List DictEntry} {tb : List (Int × Value)}, ikeys es = some tb → ∀ e ∈ es, ∃ k, Value.isInt k e.key = true ∧ e.hash = hashInt k
  | [], _, _, e, m => nomatch m
  | d :: r, tb, h, e, m => by
    unfold ikeys at h
    split at h
    · rename_i k t hk
      split at h
      · rename_i hh
        cases g : ikeys r with
        | none => rw [g] at h; cases h
        | some l =>
          rcases List.mem_cons.mp m with rfl | m
          · exact ⟨k, by rw [hk]; simp [Value.isInt], by simpa using hh⟩
          · exact ikeys_all g e m
      · cases h
    · cases h
theorem ikeys_find : ∀ {es : List DictEntry} {tb : List (Int × Value)}, ikeys es = some tb → ∀ i, (es.find? fun e => Value.isInt i e.key).map (·.val) = tb.lookup i
  | [], tb, h, i => by
    unfold ikeys at h
    cases h
    rfl
  | d :: r, tb, h, i => by
    unfold ikeys at h
    split at h
    · rename_i k t hk
      split at h
      · cases g : ikeys r with
        | none => rw [g] at h; cases h
        | some l =>
          rw [g] at h
          cases h
          rw [List.find?_cons, hk, List.lookup_cons]
          have ih := ikeys_find g i
          by_cases e : i = k
          · subst e
            simp [Value.isInt]
          · have e1 : Value.isInt i (.int k t) = false := by
              simp [Value.isInt]
              intro z
              exact e z.symm
            have e2 : (i == k) = false := by simpa using e
            rw [e1, e2]
            exact ih
      · cases h
    · cases h
/-- at d: a dict of the top with int keys -/
structure ITab (K : PySem.W.Frag) (d : Addr) (tb : List (Int × Value)) : Prop where
  ex : ∃ es n, K.lookup d = some ⟨.type "dict", none, .dict es n, #[]⟩ ∧ ikeys es.toList = some tb
  low : (d == sysModules) = false
section
variable {X : Cx} {d : Addr} {tb : List (Int × Value)}
theorem itab_map {pins : List (Addr × Obj)} {σ : L2.St} {H : Hp} {s : Shared} (D : ITab X.K d tb) (I : Inv X pins σ H s) : s.heap.MapOf (intKind X.prog X.w) d (fun k => tb.lookup k) := by
  obtain ⟨es, n, hl, hk⟩ := D.ex
  refine ⟨_, es, n, I.kIn _ _ hl, ⟨rfl, rfl, rfl⟩, rfl, fun e he => ?_, fun k => ?_⟩
  · obtain ⟨k, h1, h2⟩ := ikeys_all hk e (Array.mem_toList_iff.mpr he)
    exact ⟨k, h1, h2⟩
  · have := ikeys_find hk k
    obtain ⟨l⟩ := es
    show findBy Value.isInt _ k = tb.lookup k
    unfold findBy
    rw [List.find?_toArray]
    exact this
theorem op_in_it (D : ITab X.K d tb) : OpR X (compareOp .In) (fun x y H Q => ∃ i : Int, x = .int i ∧ y = .ref d ∧ Q (.bl (tb.lookup i).isSome) H) := by
  intro pins s σ H x y v u Q I rx ry h
  obtain ⟨i, rfl, rfl, q⟩ := h
  obtain ⟨t, rfl⟩ := rx
  cases ry
  refine wpAny_in_of (knd := intKind X.prog X.w) (k := i) (by simp [intKind, Value.isInt]) D.low (itab_map D I) ?_
  exact ⟨.bl (tb.lookup i).isSome, H, I.tok _, rfl, q⟩
theorem ix_it (D : ITab X.K d tb) : IxR X (fun x y H Q => ∃ (i : Int) (u : Value) (v : V), x = .ref d ∧ y = .int i ∧ tb.lookup i = some u ∧ RelV v u ∧ Q v H) := by
  intro value slice pins s σ H x y v u Q I rx ry h hs
  obtain ⟨i, u0, r, rfl, rfl, e, ru, q⟩ := h
  obtain rfl : v = Value.ref d := rx
  obtain ⟨t, rfl⟩ := ry
  have hm := itab_map D I
  exact tail_any hm.typeIs slot_dict_getitem.lookup (wpAny_getItem_of (knd := intKind X.prog X.w) (k := i) (by simp [intKind, Value.isInt]) hm e ⟨r, H, I.tok _, ru, q⟩) hs
end
section
variable {H : Hp} {d : Addr} {tb : List (Int × Value)} {c : Int}
theorem rv_it {u : Value} (h : tb.lookup c = some u) : RV (fun x y H Q => ∃ i : Int, x = .int i ∧ y = .ref d ∧ Q (.bl (tb.lookup i).isSome) H) (.int c) (.ref d) H (.bl true) := fun H1 _ _ q => ⟨c, rfl, rfl, by rw [h]; exact q H1 (Ex.refl H1)⟩
theorem rv_it0 (h : tb.lookup c = none) : RV (fun x y H Q => ∃ i : Int, x = .int i ∧ y = .ref d ∧ Q (.bl (tb.lookup i).isSome) H) (.int c) (.ref d) H (.bl false) := fun H1 _ _ q => ⟨c, rfl, rfl, by rw [h]; exact q H1 (Ex.refl H1)⟩
theorem rv_ix_it {a : Addr} (h : tb.lookup c = some (.ref a)) : RV (fun x y H Q => ∃ (i : Int) (u : Value) (v : V), x = .ref d ∧ y = .int i ∧ tb.lookup i = some u ∧ RelV v u ∧ Q v H) (.ref d) (.int c) H (.ref a) := fun H1 _ _ q => ⟨c, .ref a, .ref a, rfl, rfl, h, rfl, q H1 (Ex.refl H1)⟩
end
section
variable {K : PySem.W.Frag} {H : Hp} {σ : L2.St} {ta tv : TE} {D : Ends} {tz : TS} {a C dx : Addr} {fs : List (Str × V)} {f : Str}
/-- o.f = e, where e changes the heap -/
theorem s_fldP {P : V → Hp → Prop} (hv : EvP tv σ H P) (k : ∀ v H1, P v H1 → ∃ C dx fs, H1 a = some (.ins C dx fs) ∧ (∀ H2, Ex H1 H2 → Ev ta σ H2 (.ref a)) ∧ Cls K C ∧ NoAttr K C f ∧ fs.length < 1000 ∧ ∀ H2, Ex H1 H2 → D.nx σ (upd H2 a (.ins C dx (putF f v fs)))) : sFld K ta tv f D σ H :=
  hv _ fun v H1 h1 => by
    obtain ⟨C, dx, fs, ho, ha, hc, hn, hz, q⟩ := k v H1 h1
    exact ha H1 (Ex.refl H1) H1 (Ex.refl H1) _ fun H2 e2 => ⟨a, C, dx, fs, rfl, e2 _ _ ho, hc, hn, hz, q H2 e2⟩
theorem q_fldP {P : V → Hp → Prop} (hv : EvP tv σ H P) (k : ∀ v H1, P v H1 → ∃ C dx fs, H1 a = some (.ins C dx fs) ∧ (∀ H2, Ex H1 H2 → Ev ta σ H2 (.ref a)) ∧ Cls K C ∧ NoAttr K C f ∧ fs.length < 1000 ∧ ∀ H2, Ex H1 H2 → tz D σ (upd H2 a (.ins C dx (putF f v fs)))) : tSeq (sFld K ta tv f) tz D σ H :=
  s_fldP (D := { D with nx := tz D }) hv k
end
section
variable {H : Hp} {σ : L2.St} {td ty tv : TE} {D : Ends} {tz : TS} {a : Addr}
/-- d[k] = e, where e changes the heap -/
theorem s_dputP {P : V → Hp → Prop} {k : Key} (hv : EvP tv σ H P) (q : ∀ v H1, P v H1 → ∃ kvs, H1 a = some (.dK kvs) ∧ (∀ H2, Ex H1 H2 → Ev td σ H2 (.ref a)) ∧ (∀ H2, Ex H1 H2 → Ev ty σ H2 (kV k)) ∧ kvs.length < 1000 ∧ ∀ H2, Ex H1 H2 → D.nx σ (upd H2 a (.dK (putK kvs k v)))) : sDPut td ty tv D σ H :=
  hv _ fun v H1 h1 => by
    obtain ⟨kvs, hd, ha, hk, hz, g⟩ := q v H1 h1
    exact ha H1 (Ex.refl H1) H1 (Ex.refl H1) _ fun H2 e2 => hk H2 e2 H2 (Ex.refl H2) _ fun H3 e3 => ⟨a, _, rfl, DPut.k (e3 _ _ (e2 _ _ hd)) (Nat.lt_of_lt_of_le hz (by decide)), g H3 (e2.trans e3)⟩
theorem q_dputP {P : V → Hp → Prop} {k : Key} (hv : EvP tv σ H P) (q : ∀ v H1, P v H1 → ∃ kvs, H1 a = some (.dK kvs) ∧ (∀ H2, Ex H1 H2 → Ev td σ H2 (.ref a)) ∧ (∀ H2, Ex H1 H2 → Ev ty σ H2 (kV k)) ∧ kvs.length < 1000 ∧ ∀ H2, Ex H1 H2 → tz D σ (upd H2 a (.dK (putK kvs k v)))) : tSeq (sDPut td ty tv) tz D σ H :=
  s_dputP (D := { D with nx := tz D }) hv q
end
section
variable {K : PySem.W.Frag} {H : Hp} {σ : L2.St} {tl : TE} {tu tz : TS} {D : Ends} {a1 b1 a2 b2 : TE} {x1 y1 x2 y2 : V}
theorem q_forLP {P : V → Hp → Prop} {j : Nat} (h : EvP tl σ H P) (k : ∀ v H1, P v H1 → ∃ a xs, v = .ref a ∧ SqL K H1 a xs ∧ ∃ Pv : Nat → L2.St → Hp → Prop, Pv 0 σ H1 ∧ (∀ i σ' H', i ≤ xs.length → Pv i σ' H' → SqL K H' a xs) ∧
    (∀ i x σ' H', xs[i]? = some x → Pv i σ' H' → tu { D with nx := Pv (i + 1), ct := Pv (i + 1), bk := tz D } (σ'.set j (some x)) H') ∧ (∀ σ' H', Pv xs.length σ' H' → tz D σ' H')) : tSeq (tFor (iList K tl) (gName j) tu) tz D σ H :=
  h _ fun v H1 hv => by
    obtain ⟨a, xs, rfl, hx, Pv, h0, hl, hs, hd⟩ := k v H1 hv
    exact ⟨a, rfl, ⟨xs, hx⟩, for_list (g := gName j) (D := { D with nx := tz D }) Pv h0 hl hs hd⟩
theorem ep_two (h1 : EvL (tLst (tCons a1 (tCons b1 tNil))) σ H [x1, y1]) (h2 : EvL (tLst (tCons a2 (tCons b2 tNil))) σ H [x2, y2]) :
    EvP (tLst (tCons (tLst (tCons a1 (tCons b1 tNil))) (tCons (tLst (tCons a2 (tCons b2 tNil))) tNil))) σ H (fun v H' => ∃ p p1 p2, v = .ref p ∧ Ex H H' ∧ H' p = some (.lst [.ref p1, .ref p2]) ∧ H' p1 = some (.lst [x1, y1]) ∧ H' p2 = some (.lst [x2, y2])) := fun Q q => by
  show tLst (tCons a1 (tCons b1 tNil)) σ H fun x H1 => tLst (tCons a2 (tCons b2 tNil)) σ H1 fun y H2 => [x, y].length ≤ sizeLine ∧ ∀ p, H2 p = none → Q (.ref p) (upd H2 p (.lst [x, y]))
  exact h1 H (Ex.refl H) _ fun p1 H1 hp1 e1 d1 => h2 H1 e1 _ fun p2 H2 hp2 e2 d2 => ⟨sz_of (n := 2) (by decide), fun p hp => q _ _ ⟨p, p1, p2, rfl, (e1.trans e2).trans (Ex.new hp), upd_same, by rw [upd_ne (ne_of_none (e2 _ _ d1) hp)]; exact e2 _ _ d1, by rw [upd_ne (ne_of_none d2 hp)]; exact d2⟩⟩
end
theorem el_callN {sp : Sp} {gV : List V → List V → List V} {E : XK} {H : Hp} {σ : L2.St} {n m : Nat} {t tk : TA} {vs zs xs : List V} (h1 : EvA t σ H vs) (h2 : EvA tk σ H zs) (l1 : vs.length = n) (l2 : zs.length = m) (hs : SpL sp (gV vs zs) H xs) : EvL (tCallN n m sp gV E t tk) σ H xs := fun H0 e Q q =>
  h1 H0 e _ fun H1 e1 => h2 H1 (e.trans e1) _ fun H2 e2 => ⟨l1, l2, hs H2 ((e.trans e1).trans e2) Q (fun p H3 hp e3 h3 => q p H3 (fresh_back (e1.trans e2) hp) ((e1.trans e2).trans e3) h3) E⟩
theorem rv_isNon {H : Hp} {v : V} : RV (fun x y H Q => y = .non ∧ Q (.bl (decide (x = .non))) H) v .non H (.bl (decide (v = .non))) := fun H1 _ _ q => ⟨rfl, q H1 (Ex.refl H1)⟩
/-! ### keyword-only parameters -/
theorem fund_mk {K : PySem.W.Frag} {x qual : Str} {st : Stmt} {f kD : Addr} {kws : List (Str × V)} {oc : Value} {od an : Option Addr} {osl : Array (Option Value)} {doc pm cdv ct : Value}
    (l : K.lookup f = some ⟨oc, od, .func (PySem.W.fnOf x qual (defArgs st) (defBody st) (defScope st) .none (.ref kD) doc pm an cdv ct), osl⟩)
    (c : PySem.W.codeIn K cdv qual = true) (k : PySem.W.keepIn K (.ref f) = true) (hq : ∀ q ∈ kws, ∃ u, PySem.W.nsIn K kD q.1 = some (some u) ∧ RelV q.2 u) :
    FunD K x qual (defArgs st) (defBody st) (defScope st) [] kws f (PySem.W.fnOf x qual (defArgs st) (defBody st) (defScope st) .none (.ref kD) doc pm an cdv ct) :=
  ⟨⟨oc, od, .none, .ref kD, doc, pm, an, cdv, ct, osl, rfl, l, c, .inl ⟨rfl, rfl⟩, .inr ⟨kD, rfl, hq⟩⟩, k⟩
theorem hq2 {K : PySem.W.Frag} {D : Addr} {x y : Str} {i j : Int} {t u : Tok} (h1 : PySem.W.nsIn K D x = some (some (.int i t))) (h2 : PySem.W.nsIn K D y = some (some (.int j u))) : ∀ q ∈ [(x, V.int i), (y, V.int j)], ∃ u, PySem.W.nsIn K D q.1 = some (some u) ∧ RelV q.2 u := by
  intro q m
  rcases List.mem_cons.mp m with rfl | m
  · exact ⟨_, h1, t, rfl⟩
  · rw [List.mem_singleton.mp m]
    exact ⟨_, h2, u, rfl⟩
end Gd

set_option Elab.async false
set_option linter.all false
set_option maxRecDepth 100000
set_option maxHeartbeats 4000000
namespace K25
open PySem PySem.Spec PyProof.Rows L2 Evl Gd
/-! ### the text -/
def topS (i : Nat) : Stmt := PySem.Challenge.pw_plinth_k25_translator_code_by_code.main.body.getD i (.Pass ⟨0, 0, 0, 0⟩)
abbrev s_is_digit : Stmt := topS 9
abbrev N_is_digit : List Str := ["code"]
theorem sc_is_digit : FnScope N_is_digit ["code"] (defScope s_is_digit) := ⟨rfl, rfl, rfl, by decide +kernel, rfl, by decide +kernel, by decide +kernel⟩
abbrev s_with_digit : Stmt := topS 10
abbrev N_with_digit : List Str := ["number", "code"]
theorem sc_with_digit : FnScope N_with_digit ["number", "code"] (defScope s_with_digit) := ⟨rfl, rfl, rfl, by decide +kernel, rfl, by decide +kernel, by decide +kernel⟩
abbrev s_begin_choice : Stmt := topS 12
abbrev N_begin_choice : List Str := ["translator", "number"]
theorem sc_begin_choice : FnScope N_begin_choice ["translator"] (defScope s_begin_choice) := ⟨rfl, rfl, rfl, by decide +kernel, rfl, by decide +kernel, by decide +kernel⟩
abbrev s_turn_choice : Stmt := topS 13
abbrev N_turn_choice : List Str := ["translator", "number"]
theorem sc_turn_choice : FnScope N_turn_choice ["translator"] (defScope s_turn_choice) := ⟨rfl, rfl, rfl, by decide +kernel, rfl, by decide +kernel, by decide +kernel⟩
abbrev s_end_choice : Stmt := topS 14
abbrev N_end_choice : List Str := ["translator", "number"]
theorem sc_end_choice : FnScope N_end_choice ["translator"] (defScope s_end_choice) := ⟨rfl, rfl, rfl, by decide +kernel, rfl, by decide +kernel, by decide +kernel⟩
abbrev s_begin_loop : Stmt := topS 15
abbrev N_begin_loop : List Str := ["translator", "number"]
theorem sc_begin_loop : FnScope N_begin_loop ["translator"] (defScope s_begin_loop) := ⟨rfl, rfl, rfl, by decide +kernel, rfl, by decide +kernel, by decide +kernel⟩
abbrev s_end_loop : Stmt := topS 16
abbrev N_end_loop : List Str := ["translator", "start", "number"]
theorem sc_end_loop : FnScope N_end_loop ["translator"] (defScope s_end_loop) := ⟨rfl, rfl, rfl, by decide +kernel, rfl, by decide +kernel, by decide +kernel⟩
abbrev s_end_definition : Stmt := topS 17
abbrev N_end_definition : List Str := ["translator"]
theorem sc_end_definition : FnScope N_end_definition ["translator"] (defScope s_end_definition) := ⟨rfl, rfl, rfl, by decide +kernel, rfl, by decide +kernel, by decide +kernel⟩
abbrev s_Translator_init : Stmt := inClass (topS 19) 0
abbrev N_Translator_init : List Str := ["self", "first", "by"]
theorem sc_Translator_init : FnScope N_Translator_init ["self", "first", "by"] (defScope s_Translator_init) := ⟨rfl, rfl, rfl, by decide +kernel, rfl, by decide +kernel, by decide +kernel⟩
abbrev s_Translator_popped : Stmt := inClass (topS 19) 1
abbrev N_Translator_popped : List Str := ["self"]
theorem sc_Translator_popped : FnScope N_Translator_popped ["self"] (defScope s_Translator_popped) := ⟨rfl, rfl, rfl, by decide +kernel, rfl, by decide +kernel, by decide +kernel⟩
abbrev s_Translator_taken_number : Stmt := inClass (topS 19) 2
abbrev N_Translator_taken_number : List Str := ["self", "number"]
theorem sc_Translator_taken_number : FnScope N_Translator_taken_number ["self"] (defScope s_Translator_taken_number) := ⟨rfl, rfl, rfl, by decide +kernel, rfl, by decide +kernel, by decide +kernel⟩
abbrev s_Translator_append_node : Stmt := inClass (topS 19) 3
abbrev N_Translator_append_node : List Str := ["self", "operation", "argument", "successor"]
theorem sc_Translator_append_node : FnScope N_Translator_append_node ["self", "operation", "argument", "successor"] (defScope s_Translator_append_node) := ⟨rfl, rfl, rfl, by decide +kernel, rfl, by decide +kernel, by decide +kernel⟩
abbrev s_Translator_emit : Stmt := inClass (topS 19) 4
abbrev N_Translator_emit : List Str := ["self", "operation", "argument", "successor"]
theorem sc_Translator_emit : FnScope N_Translator_emit ["self", "operation", "argument"] (defScope s_Translator_emit) := ⟨rfl, rfl, rfl, by decide +kernel, rfl, by decide +kernel, by decide +kernel⟩
abbrev s_Translator_take : Stmt := inClass (topS 19) 5
abbrev N_Translator_take : List Str := ["self", "code"]
theorem sc_Translator_take : FnScope N_Translator_take ["self", "code"] (defScope s_Translator_take) := ⟨rfl, rfl, rfl, by decide +kernel, rfl, by decide +kernel, by decide +kernel⟩
abbrev s_Translator_finish : Stmt := inClass (topS 19) 6
abbrev N_Translator_finish : List Str := ["self"]
theorem sc_Translator_finish : FnScope N_Translator_finish ["self"] (defScope s_Translator_finish) := ⟨rfl, rfl, rfl, by decide +kernel, rfl, by decide +kernel, by decide +kernel⟩
abbrev s_Translator_end_numeral : Stmt := inClass (topS 19) 7
abbrev N_Translator_end_numeral : List Str := ["self"]
theorem sc_Translator_end_numeral : FnScope N_Translator_end_numeral ["self"] (defScope s_Translator_end_numeral) := ⟨rfl, rfl, rfl, by decide +kernel, rfl, by decide +kernel, by decide +kernel⟩
abbrev s_Translator_take_skipped : Stmt := inClass (topS 19) 8
abbrev N_Translator_take_skipped : List Str := ["self", "code", "sign"]
theorem sc_Translator_take_skipped : FnScope N_Translator_take_skipped ["self", "code"] (defScope s_Translator_take_skipped) := ⟨rfl, rfl, rfl, by decide +kernel, rfl, by decide +kernel, by decide +kernel⟩
abbrev s_Translator_take_sign : Stmt := inClass (topS 19) 9
abbrev N_Translator_take_sign : List Str := ["self", "code", "action"]
theorem sc_Translator_take_sign : FnScope N_Translator_take_sign ["self", "code"] (defScope s_Translator_take_sign) := ⟨rfl, rfl, rfl, by decide +kernel, rfl, by decide +kernel, by decide +kernel⟩
abbrev s_law_number : Stmt := topS 21
abbrev N_law_number : List Str := ["_law_cell"]
theorem sc_law_number : FnScope N_law_number ["_law_cell"] (defScope s_law_number) := ⟨rfl, rfl, rfl, by decide +kernel, rfl, by decide +kernel, by decide +kernel⟩
abbrev s_law_draws : Stmt := topS 22
abbrev N_law_draws : List Str := ["_law_script", "_law_draws_here", "_law_cell", "_law_rest", "_law_k", "_law_once", "_law_twice"]
theorem sc_law_draws : FnScope N_law_draws ["_law_script"] (defScope s_law_draws) := ⟨rfl, rfl, rfl, by decide +kernel, rfl, by decide +kernel, by decide +kernel⟩
abbrev s_law_next : Stmt := topS 23
abbrev N_law_next : List Str := ["_law_draws_here"]
theorem sc_law_next : FnScope N_law_next ["_law_draws_here"] (defScope s_law_next) := ⟨rfl, rfl, rfl, by decide +kernel, rfl, by decide +kernel, by decide +kernel⟩
abbrev s_law_sign : Stmt := topS 24
abbrev N_law_sign : List Str := ["_law_draw", "_law_often"]
theorem sc_law_sign : FnScope N_law_sign ["_law_draw"] (defScope s_law_sign) := ⟨rfl, rfl, rfl, by decide +kernel, rfl, by decide +kernel, by decide +kernel⟩
abbrev s_law_program : Stmt := topS 25
abbrev N_law_program : List Str := ["_law_draws_here", "_law_most", "_law_codes", "_law_k"]
theorem sc_law_program : FnScope N_law_program ["_law_draws_here", "_law_most"] (defScope s_law_program) := ⟨rfl, rfl, rfl, by decide +kernel, rfl, by decide +kernel, by decide +kernel⟩
abbrev s_law_pull : Stmt := topS 26
abbrev N_law_pull : List Str := ["_law_pile"]
theorem sc_law_pull : FnScope N_law_pull ["_law_pile"] (defScope s_law_pull) := ⟨rfl, rfl, rfl, by decide +kernel, rfl, by decide +kernel, by decide +kernel⟩
abbrev s_law_emit : Stmt := topS 27
abbrev N_law_emit : List Str := ["_law_state", "_law_op", "_law_arg"]
theorem sc_law_emit : FnScope N_law_emit ["_law_state", "_law_op", "_law_arg"] (defScope s_law_emit) := ⟨rfl, rfl, rfl, by decide +kernel, rfl, by decide +kernel, by decide +kernel⟩
abbrev s_law_branch : Stmt := topS 28
abbrev N_law_branch : List Str := ["_law_state", "_law_code_here", "_law_pile", "_law_new", "_law_after", "_law_start"]
theorem sc_law_branch : FnScope N_law_branch ["_law_state", "_law_code_here"] (defScope s_law_branch) := ⟨rfl, rfl, rfl, by decide +kernel, rfl, by decide +kernel, by decide +kernel⟩
abbrev s_law_pair : Stmt := topS 29
abbrev N_law_pair : List Str := ["_law_state", "_law_sign_here", "_law_code_here"]
theorem sc_law_pair : FnScope N_law_pair ["_law_state", "_law_sign_here", "_law_code_here"] (defScope s_law_pair) := ⟨rfl, rfl, rfl, by decide +kernel, rfl, by decide +kernel, by decide +kernel⟩
abbrev s_law_code : Stmt := topS 30
abbrev N_law_code : List Str := ["_law_state", "_law_code_here"]
theorem sc_law_code : FnScope N_law_code ["_law_state", "_law_code_here"] (defScope s_law_code) := ⟨rfl, rfl, rfl, by decide +kernel, rfl, by decide +kernel, by decide +kernel⟩
abbrev s_law_translate : Stmt := topS 31
abbrev N_law_translate : List Str := ["_law_codes", "_law_first", "_law_by", "_law_state", "_law_numeral", "_law_sign_here", "_law_code_here"]
theorem sc_law_translate : FnScope N_law_translate ["_law_codes", "_law_first", "_law_by"] (defScope s_law_translate) := ⟨rfl, rfl, rfl, by decide +kernel, rfl, by decide +kernel, by decide +kernel⟩
abbrev s_law_is_integer : Stmt := topS 32
abbrev N_law_is_integer : List Str := ["_law_actual"]
theorem sc_law_is_integer : FnScope N_law_is_integer ["_law_actual"] (defScope s_law_is_integer) := ⟨rfl, rfl, rfl, by decide +kernel, rfl, by decide +kernel, by decide +kernel⟩
abbrev s_law_is_integers : Stmt := topS 33
abbrev N_law_is_integers : List Str := ["_law_actual", "_law_number_here"]
theorem sc_law_is_integers : FnScope N_law_is_integers ["_law_actual"] (defScope s_law_is_integers) := ⟨rfl, rfl, rfl, by decide +kernel, rfl, by decide +kernel, by decide +kernel⟩
abbrev s_law_made : Stmt := topS 34
abbrev N_law_made : List Str := ["_law_first", "_law_by", "_law_choice"]
theorem sc_law_made : FnScope N_law_made ["_law_first", "_law_by", "_law_choice"] (defScope s_law_made) := ⟨rfl, rfl, rfl, by decide +kernel, rfl, by decide +kernel, by decide +kernel⟩
abbrev s_law_follow : Stmt := topS 35
abbrev N_law_follow : List Str := ["_law_state", "_law_code_here", "_law_value"]
theorem sc_law_follow : FnScope N_law_follow ["_law_state", "_law_code_here"] (defScope s_law_follow) := ⟨rfl, rfl, rfl, by decide +kernel, rfl, by decide +kernel, by decide +kernel⟩
abbrev s_law_agrees : Stmt := topS 36
abbrev N_law_agrees : List Str := ["_law_translator", "_law_state", "_law_pair_here"]
theorem sc_law_agrees : FnScope N_law_agrees ["_law_translator", "_law_state"] (defScope s_law_agrees) := ⟨rfl, rfl, rfl, by decide +kernel, rfl, by decide +kernel, by decide +kernel⟩
abbrev s_law : Stmt := topS 37
abbrev N_law : List Str := ["_law_script", "_law_draws_here", "_law_choice", "_law_first", "_law_by", "_law_codes", "_law_state", "_law_translator", "_law_code_here", "_law_due", "_law_actual", "_law_again"]
theorem sc_law : FnScope N_law ["_law_script"] (defScope s_law) := ⟨rfl, rfl, rfl, by decide +kernel, rfl, by decide +kernel, by decide +kernel⟩
/-! ### what the top has written -/
structure Txt (K : PySem.W.Frag) (mg : Str → Option Value) where
  C_Translator : Addr
  f_is_digit : Addr
  d_is_digit : FuncData
  F_is_digit : Fun K "is_digit" "is_digit" s_is_digit f_is_digit d_is_digit
  b_is_digit : Binds K d_is_digit ["code"] []
  g_is_digit : mg "is_digit" = some (.ref f_is_digit)
  f_with_digit : Addr
  d_with_digit : FuncData
  F_with_digit : Fun K "with_digit" "with_digit" s_with_digit f_with_digit d_with_digit
  b_with_digit : Binds K d_with_digit ["number", "code"] []
  g_with_digit : mg "with_digit" = some (.ref f_with_digit)
  f_begin_choice : Addr
  d_begin_choice : FuncData
  F_begin_choice : Fun K "_begin_choice" "_begin_choice" s_begin_choice f_begin_choice d_begin_choice
  b_begin_choice : Binds K d_begin_choice ["translator"] []
  g_begin_choice : mg "_begin_choice" = some (.ref f_begin_choice)
  f_turn_choice : Addr
  d_turn_choice : FuncData
  F_turn_choice : Fun K "_turn_choice" "_turn_choice" s_turn_choice f_turn_choice d_turn_choice
  b_turn_choice : Binds K d_turn_choice ["translator"] []
  g_turn_choice : mg "_turn_choice" = some (.ref f_turn_choice)
  f_end_choice : Addr
  d_end_choice : FuncData
  F_end_choice : Fun K "_end_choice" "_end_choice" s_end_choice f_end_choice d_end_choice
  b_end_choice : Binds K d_end_choice ["translator"] []
  g_end_choice : mg "_end_choice" = some (.ref f_end_choice)
  f_begin_loop : Addr
  d_begin_loop : FuncData
  F_begin_loop : Fun K "_begin_loop" "_begin_loop" s_begin_loop f_begin_loop d_begin_loop
  b_begin_loop : Binds K d_begin_loop ["translator"] []
  g_begin_loop : mg "_begin_loop" = some (.ref f_begin_loop)
  f_end_loop : Addr
  d_end_loop : FuncData
  F_end_loop : Fun K "_end_loop" "_end_loop" s_end_loop f_end_loop d_end_loop
  b_end_loop : Binds K d_end_loop ["translator"] []
  g_end_loop : mg "_end_loop" = some (.ref f_end_loop)
  f_end_definition : Addr
  d_end_definition : FuncData
  F_end_definition : Fun K "_end_definition" "_end_definition" s_end_definition f_end_definition d_end_definition
  b_end_definition : Binds K d_end_definition ["translator"] []
  g_end_definition : mg "_end_definition" = some (.ref f_end_definition)
  f_Translator_init : Addr
  d_Translator_init : FuncData
  F_Translator_init : Fun K "__init__" "Translator.__init__" s_Translator_init f_Translator_init d_Translator_init
  K_Translator_init : FunD K "__init__" "Translator.__init__" (defArgs s_Translator_init) (defBody s_Translator_init) (defScope s_Translator_init) [] [("first", V.int 200), ("by", V.int 1)] f_Translator_init d_Translator_init
  m_Translator_init : Mk K C_Translator f_Translator_init
  f_Translator_popped : Addr
  d_Translator_popped : FuncData
  F_Translator_popped : Fun K "popped" "Translator.popped" s_Translator_popped f_Translator_popped d_Translator_popped
  b_Translator_popped : Binds K d_Translator_popped ["self"] []
  m_Translator_popped : Meth K C_Translator "popped" f_Translator_popped
  f_Translator_taken_number : Addr
  d_Translator_taken_number : FuncData
  F_Translator_taken_number : Fun K "taken_number" "Translator.taken_number" s_Translator_taken_number f_Translator_taken_number d_Translator_taken_number
  b_Translator_taken_number : Binds K d_Translator_taken_number ["self"] []
  m_Translator_taken_number : Meth K C_Translator "taken_number" f_Translator_taken_number
  f_Translator_append_node : Addr
  d_Translator_append_node : FuncData
  F_Translator_append_node : Fun K "append_node" "Translator.append_node" s_Translator_append_node f_Translator_append_node d_Translator_append_node
  b_Translator_append_node : Binds K d_Translator_append_node ["self", "operation", "argument", "successor"] []
  m_Translator_append_node : Meth K C_Translator "append_node" f_Translator_append_node
  f_Translator_emit : Addr
  d_Translator_emit : FuncData
  F_Translator_emit : Fun K "emit" "Translator.emit" s_Translator_emit f_Translator_emit d_Translator_emit
  b_Translator_emit : Binds K d_Translator_emit ["self", "operation", "argument"] []
  m_Translator_emit : Meth K C_Translator "emit" f_Translator_emit
  f_Translator_take : Addr
  d_Translator_take : FuncData
  F_Translator_take : Fun K "take" "Translator.take" s_Translator_take f_Translator_take d_Translator_take
  b_Translator_take : Binds K d_Translator_take ["self", "code"] []
  m_Translator_take : Meth K C_Translator "take" f_Translator_take
  f_Translator_finish : Addr
  d_Translator_finish : FuncData
  F_Translator_finish : Fun K "finish" "Translator.finish" s_Translator_finish f_Translator_finish d_Translator_finish
  b_Translator_finish : Binds K d_Translator_finish ["self"] []
  m_Translator_finish : Meth K C_Translator "finish" f_Translator_finish
  f_Translator_end_numeral : Addr
  d_Translator_end_numeral : FuncData
  F_Translator_end_numeral : Fun K "_end_numeral" "Translator._end_numeral" s_Translator_end_numeral f_Translator_end_numeral d_Translator_end_numeral
  b_Translator_end_numeral : Binds K d_Translator_end_numeral ["self"] []
  m_Translator_end_numeral : Meth K C_Translator "_end_numeral" f_Translator_end_numeral
  f_Translator_take_skipped : Addr
  d_Translator_take_skipped : FuncData
  F_Translator_take_skipped : Fun K "_take_skipped" "Translator._take_skipped" s_Translator_take_skipped f_Translator_take_skipped d_Translator_take_skipped
  b_Translator_take_skipped : Binds K d_Translator_take_skipped ["self", "code"] []
  m_Translator_take_skipped : Meth K C_Translator "_take_skipped" f_Translator_take_skipped
  f_Translator_take_sign : Addr
  d_Translator_take_sign : FuncData
  F_Translator_take_sign : Fun K "_take_sign" "Translator._take_sign" s_Translator_take_sign f_Translator_take_sign d_Translator_take_sign
  b_Translator_take_sign : Binds K d_Translator_take_sign ["self", "code"] []
  m_Translator_take_sign : Meth K C_Translator "_take_sign" f_Translator_take_sign
  f_law_number : Addr
  d_law_number : FuncData
  F_law_number : Fun K "_law_number" "_law_number" s_law_number f_law_number d_law_number
  b_law_number : Binds K d_law_number ["_law_cell"] []
  g_law_number : mg "_law_number" = some (.ref f_law_number)
  f_law_draws : Addr
  d_law_draws : FuncData
  F_law_draws : Fun K "_law_draws" "_law_draws" s_law_draws f_law_draws d_law_draws
  b_law_draws : Binds K d_law_draws ["_law_script"] []
  g_law_draws : mg "_law_draws" = some (.ref f_law_draws)
  f_law_next : Addr
  d_law_next : FuncData
  F_law_next : Fun K "_law_next" "_law_next" s_law_next f_law_next d_law_next
  b_law_next : Binds K d_law_next ["_law_draws_here"] []
  g_law_next : mg "_law_next" = some (.ref f_law_next)
  f_law_sign : Addr
  d_law_sign : FuncData
  F_law_sign : Fun K "_law_sign" "_law_sign" s_law_sign f_law_sign d_law_sign
  b_law_sign : Binds K d_law_sign ["_law_draw"] []
  g_law_sign : mg "_law_sign" = some (.ref f_law_sign)
  f_law_program : Addr
  d_law_program : FuncData
  F_law_program : Fun K "_law_program" "_law_program" s_law_program f_law_program d_law_program
  b_law_program : Binds K d_law_program ["_law_draws_here", "_law_most"] []
  g_law_program : mg "_law_program" = some (.ref f_law_program)
  f_law_pull : Addr
  d_law_pull : FuncData
  F_law_pull : Fun K "_law_pull" "_law_pull" s_law_pull f_law_pull d_law_pull
  b_law_pull : Binds K d_law_pull ["_law_pile"] []
  g_law_pull : mg "_law_pull" = some (.ref f_law_pull)
  f_law_emit : Addr
  d_law_emit : FuncData
  F_law_emit : Fun K "_law_emit" "_law_emit" s_law_emit f_law_emit d_law_emit
  b_law_emit : Binds K d_law_emit ["_law_state", "_law_op", "_law_arg"] []
  g_law_emit : mg "_law_emit" = some (.ref f_law_emit)
  f_law_branch : Addr
  d_law_branch : FuncData
  F_law_branch : Fun K "_law_branch" "_law_branch" s_law_branch f_law_branch d_law_branch
  b_law_branch : Binds K d_law_branch ["_law_state", "_law_code_here"] []
  g_law_branch : mg "_law_branch" = some (.ref f_law_branch)
  f_law_pair : Addr
  d_law_pair : FuncData
  F_law_pair : Fun K "_law_pair" "_law_pair" s_law_pair f_law_pair d_law_pair
  b_law_pair : Binds K d_law_pair ["_law_state", "_law_sign_here", "_law_code_here"] []
  g_law_pair : mg "_law_pair" = some (.ref f_law_pair)
  f_law_code : Addr
  d_law_code : FuncData
  F_law_code : Fun K "_law_code" "_law_code" s_law_code f_law_code d_law_code
  b_law_code : Binds K d_law_code ["_law_state", "_law_code_here"] []
  g_law_code : mg "_law_code" = some (.ref f_law_code)
  f_law_translate : Addr
  d_law_translate : FuncData
  F_law_translate : Fun K "_law_translate" "_law_translate" s_law_translate f_law_translate d_law_translate
  b_law_translate : Binds K d_law_translate ["_law_codes", "_law_first", "_law_by"] []
  g_law_translate : mg "_law_translate" = some (.ref f_law_translate)
  f_law_is_integer : Addr
  d_law_is_integer : FuncData
  F_law_is_integer : Fun K "_law_is_integer" "_law_is_integer" s_law_is_integer f_law_is_integer d_law_is_integer
  b_law_is_integer : Binds K d_law_is_integer ["_law_actual"] []
  g_law_is_integer : mg "_law_is_integer" = some (.ref f_law_is_integer)
  f_law_is_integers : Addr
  d_law_is_integers : FuncData
  F_law_is_integers : Fun K "_law_is_integers" "_law_is_integers" s_law_is_integers f_law_is_integers d_law_is_integers
  b_law_is_integers : Binds K d_law_is_integers ["_law_actual"] []
  g_law_is_integers : mg "_law_is_integers" = some (.ref f_law_is_integers)
  f_law_made : Addr
  d_law_made : FuncData
  F_law_made : Fun K "_law_made" "_law_made" s_law_made f_law_made d_law_made
  b_law_made : Binds K d_law_made ["_law_first", "_law_by", "_law_choice"] []
  g_law_made : mg "_law_made" = some (.ref f_law_made)
  f_law_follow : Addr
  d_law_follow : FuncData
  F_law_follow : Fun K "_law_follow" "_law_follow" s_law_follow f_law_follow d_law_follow
  b_law_follow : Binds K d_law_follow ["_law_state", "_law_code_here"] []
  g_law_follow : mg "_law_follow" = some (.ref f_law_follow)
  f_law_agrees : Addr
  d_law_agrees : FuncData
  F_law_agrees : Fun K "_law_agrees" "_law_agrees" s_law_agrees f_law_agrees d_law_agrees
  b_law_agrees : Binds K d_law_agrees ["_law_translator", "_law_state"] []
  g_law_agrees : mg "_law_agrees" = some (.ref f_law_agrees)
  f_law : Addr
  d_law : FuncData
  F_law : Fun K "law" "law" s_law f_law d_law
  b_law : Binds K d_law ["_law_script"] []
  g_law : mg "law" = some (.ref f_law)
  h_law : ∀ (s : Shared) (v : Value), BindsTo s d_law ⟨[v], []⟩ [("_law_script", v)]
  gc_Translator : mg "Translator" = some (.ref C_Translator)
  cl_Translator : Cls K C_Translator
  na_Translator_image : NoAttr K C_Translator "image"
  na_Translator_m : NoAttr K C_Translator "m"
  na_Translator_k : NoAttr K C_Translator "k"
  na_Translator_pile : NoAttr K C_Translator "pile"
  na_Translator_numeral : NoAttr K C_Translator "numeral"
  na_Translator_waiting : NoAttr K C_Translator "waiting"
  na_Translator_by : NoAttr K C_Translator "_by"
  na_Translator_stopped : NoAttr K C_Translator "_stopped"
  na_Translator_finished : NoAttr K C_Translator "_finished"
  D_BRACKETS : Addr
  g_BRACKETS : mg "_BRACKETS" = some (.ref D_BRACKETS)
  tab_BRACKETS : ITab K D_BRACKETS [(91, .ref f_begin_choice), (124, .ref f_turn_choice), (93, .ref f_end_choice), (123, .ref f_begin_loop), (125, .ref f_end_loop), (59, .ref f_end_definition)]
  nd_BRACKETS : [f_begin_choice, f_turn_choice, f_end_choice, f_begin_loop, f_end_loop, f_end_definition].Nodup
  t_BRANCH : Tok
  c_BRANCH : mg "BRANCH" = some (.int 63 t_BRANCH)
  t_COLON : Tok
  c_COLON : mg "COLON" = some (.int 58 t_COLON)
  t_NOP : Tok
  c_NOP : mg "NOP" = some (.int 32 t_NOP)
  t_PUSH : Tok
  c_PUSH : mg "PUSH" = some (.int 35 t_PUSH)
  t_QUOTE : Tok
  c_QUOTE : mg "QUOTE" = some (.int 39 t_QUOTE)
  t_RETURN : Tok
  c_RETURN : mg "RETURN" = some (.int 41 t_RETURN)
  t_SET : Tok
  c_SET : mg "SET" = some (.int 61 t_SET)
  t_SPACE : Tok
  c_SPACE : mg "SPACE" = some (.int 32 t_SPACE)
  n_bool : mg "bool" = none
  n_int : mg "int" = none
  n_isinstance : mg "isinstance" = none
  n_list : mg "list" = none
  n_range : mg "range" = none
/-! ### how expressions are evaluated, without a word of ours -/
local macro_rules | `(tactic| walk_at "ev") => `(tactic| exact ev_c)
local macro_rules | `(tactic| walk_at "ev") => `(tactic| exact ev_var rfl)
local macro_rules | `(tactic| walk_at "ev") => `(tactic| (refine' ev_op ?k1 ?k2 ?k3; (case k1 => walk_at "ev"); (case k2 => walk_at "ev"); (case k3 => walk_at "rv")))
local macro_rules | `(tactic| walk_at "ev") => `(tactic| (refine' ev_cb ?k1 ?k2; (case k1 => walk_at "ea"); (case k2 => walk_at "rc")))
local macro_rules | `(tactic| walk_at "ev") => `(tactic| (refine' ev_call ?k1 ?k2; (case k1 => walk_at "ea"); (case k2 => walk_at "sp")))
local macro_rules | `(tactic| walk_at "ev") => `(tactic| (refine' ev_chain ?k1 ?k2 ?k3 (fun _ => ?k4) (fun _ => ?k5); (case k1 => walk_at "ev"); (case k2 => walk_at "ev"); (case k3 => walk_at "rv"); (case k4 => walk_at "ev"); (case k5 => walk_at "rv")))
local macro_rules | `(tactic| walk_at "ev") => `(tactic| (refine' ev_orV ?k1 (fun _ => ?k2); (case k1 => walk_at "ev"); (case k2 => walk_at "ev")))
local macro_rules | `(tactic| walk_at "ev") => `(tactic| (refine' ev_andV ?k1 (fun _ => ?k2); (case k1 => walk_at "ev"); (case k2 => walk_at "ev")))
local macro_rules | `(tactic| walk_at "ev") => `(tactic| (refine' ev_notV ?k1; (case k1 => walk_at "ev")))
local macro_rules | `(tactic| walk_at "ea") => `(tactic| exact ea_nil)
local macro_rules | `(tactic| walk_at "ea") => `(tactic| (refine' ea_cons ?k1 ?k2; (case k1 => walk_at "ev"); (case k2 => walk_at "ea")))
local macro_rules | `(tactic| walk_at "rv") => `(tactic| exact rv_I0)
local macro_rules | `(tactic| walk_at "rv") => `(tactic| exact rv_eqI)
local macro_rules | `(tactic| walk_at "rv") => `(tactic| exact rv_neI)
local macro_rules | `(tactic| walk_at "rv") => `(tactic| exact rv_eqS)
local macro_rules | `(tactic| walk_at "rv") => `(tactic| exact rv_neS)
local macro_rules | `(tactic| walk_at "rv") => `(tactic| exact rv_mod (by decide))
local macro_rules | `(tactic| walk_at "rv") => `(tactic| exact rv_fdiv (by decide) (by decide))
local macro_rules | `(tactic| walk_at "rv") => `(tactic| exact rv_mulR (by decide))
local macro_rules | `(tactic| walk_at "rv") => `(tactic| exact rv_pow (by decide))
local macro_rules | `(tactic| walk_at "rc") => `(tactic| exact rc_int)
local macro_rules | `(tactic| walk_at "rc") => `(tactic| exact rc_ord)
local macro_rules | `(tactic| walk_at "et") => `(tactic| (refine' et_test ?k1; (case k1 => walk_at "ev")))
local macro_rules | `(tactic| walk_at "et") => `(tactic| (refine' et_B ?k1; (case k1 => walk_at "ev")))
local macro_rules | `(tactic| walk_at "et") => `(tactic| (refine' et_not ?k1; (case k1 => walk_at "et")))
local macro_rules | `(tactic| walk_at "et") => `(tactic| (refine' et_or ?k1 (fun _ => ?k2); (case k1 => walk_at "et"); (case k2 => walk_at "et")))
local macro_rules | `(tactic| walk_at "et") => `(tactic| (refine' et_and ?k1 (fun _ => ?k2); (case k1 => walk_at "et"); (case k2 => walk_at "et")))

section
variable {P : Program} {w : World} {K : PySem.W.Frag} {mg : Str → Option Value} {base : Heap}
/-! ### digits read -/
def sp_is_digit (K : PySem.W.Frag) : Sp := fun vs H Q _ => ∃ c : Int, vs = [.int c] ∧ RetV (.bl (isDg c)) H Q
theorem v_is_digit {c : Int} {H : Hp} : SpV (sp_is_digit K) [.int c] H (.bl (isDg c)) := fun _ _ _ q _ => ⟨c, rfl, q⟩
theorem ok_is_digit (T : Txt K mg) : FnOk P w K mg base CX0 1 T.f_is_digit T.d_is_digit ["code"] (sp_is_digit K) := by
  refine T.F_is_digit.ok sc_is_digit (fun vs H Q E h => ?_) (fun cdv A outer s H vs Q E hr h => ?_)
  · obtain ⟨c, rfl, _⟩ := h
    rfl
  · obtain ⟨c, rfl, k⟩ := h
    refine ⟨_, (pss_one (ps_ret (pe_chain op_le op_le pe_int (pv 0) pe_int))), ?_⟩
    exact s_ret (by walk_at "ev") k
def sp_with_digit (K : PySem.W.Frag) : Sp := fun vs H Q _ => ∃ n c : Int, vs = [.int n, .int c] ∧ RetV (.int (10 * n + c - 48)) H Q
theorem v_with_digit {n c : Int} {H : Hp} : SpV (sp_with_digit K) [.int n, .int c] H (.int (10 * n + c - 48)) := fun _ _ _ q _ => ⟨n, c, rfl, q⟩
theorem ok_with_digit (T : Txt K mg) : FnOk P w K mg base CX0 1 T.f_with_digit T.d_with_digit ["number", "code"] (sp_with_digit K) := by
  refine T.F_with_digit.ok sc_with_digit (fun vs H Q E h => ?_) (fun cdv A outer s H vs Q E hr h => ?_)
  · obtain ⟨n, c, rfl, _⟩ := h
    rfl
  · obtain ⟨n, c, rfl, k⟩ := h
    refine ⟨_, (pss_one (ps_ret (pe_op op_sub (pe_op op_add (pe_op op_mul pe_int (pv 0)) (pv 1)) pe_int))), ?_⟩
    exact s_ret (ev_op (ev_op (ev_op ev_c (ev_var rfl) (rv_mulL (by decide))) (ev_var rfl) rv_I0) ev_c rv_I0) k

theorem foldl_snoc {α β : Type} {f : β → α → β} {l : List α} {s : β} {i : Nat} {c : α} (h : l[i]? = some c) : (l.take (i + 1)).foldl f s = f ((l.take i).foldl f s) c := by
  rw [List.take_succ, h, List.foldl_append]
  rfl
/-! ### keyword-only parameters -/
theorem kb_Translator_init_first_by (T : Txt K mg) : ∃ mv : List Value, KBn K T.d_Translator_init ["self", "first", "by"] 1 ["first", "by"] (fun us ws => (us ++ mv) ++ ws) (fun vs zs => (vs ++ ([] : List (Str × V)).map (·.2)) ++ zs) :=
  T.K_Translator_init.kbinds0 (ps := ["self", "first", "by"]) 1 ["first", "by"] [] (fun us mv ws => (us ++ mv) ++ ws) (by simp) (fun q m => nomatch m) (fun r1 r2 r3 => (r1.append r2).append r3) fun D doc pm an cdv ct us mv ws l1 l2 l3 => match us, mv, ws, l1, l2, l3 with
    | [_], [], [_, _], _, _, _ => rfl
/-! ### the translator's state -/
structure TS where
  im : List Int
  m : Int
  k : Int
  pl : List Int
  nu : Option Int
  wa : Option Int
  b : Int
  st : Bool
  fi : Bool
  ex : Option (V × V × V)
def FF (s : TS) (qi qp : Addr) : List (Str × V) := [("image", .ref qi), ("m", .int s.m), ("k", .int s.k), ("pile", .ref qp), ("numeral", optV s.nu), ("waiting", optV s.wa), ("_by", .int s.b), ("_stopped", .bl s.st), ("_finished", .bl s.fi)]
def topT (s : TS) : Int := s.pl.getLast?.getD 0
def popT (s : TS) : TS := { s with pl := s.pl.dropLast }
def takT (s : TS) : TS := { s with k := s.k + s.b }
def appT (s : TS) (op a su : Int) : TS := { s with im := s.im ++ [s.m, op, a, su] }
def emT (s : TS) (op a : Int) : TS := { appT s op a s.k with k := s.k + s.b, m := s.k }
def b91 (s : TS) : TS := emT { s with k := s.k + s.b, pl := s.pl ++ [s.k] } 63 s.k
def b124 (s : TS) : TS := { appT s 32 0 s.k with k := s.k + s.b, m := topT s, pl := s.pl.dropLast ++ [s.k] }
def b93 (s : TS) : TS := { appT s 32 0 (topT s) with m := topT s, pl := s.pl.dropLast }
def b123 (s : TS) : TS := { appT s 32 0 s.k with k := s.k + s.b, m := s.k, pl := s.pl ++ [s.k] }
def b125 (s : TS) : TS := { appT s 63 s.k (topT s) with k := s.k + s.b, m := s.k, pl := s.pl.dropLast }
def b59 (s : TS) : TS := { appT s 41 0 1 with m := topT s, pl := s.pl.dropLast }
def endN (s : TS) : TS := match s.nu with
  | none => s
  | some v => { emT s 35 v with nu := none }
def skT (s : TS) (w c : Int) : TS := if w = 58 then { s with wa := none, pl := s.pl ++ [s.m], m := c } else if w = 39 then emT { s with wa := none } 35 c else emT { s with wa := none } 61 c
def brT (c : Int) : Option (TS → TS) := if c = 91 then some b91 else if c = 124 then some b124 else if c = 93 then some b93 else if c = 123 then some b123 else if c = 125 then some b125 else if c = 59 then some b59 else none
def sgT (s : TS) (c : Int) : TS := if c = 39 ∨ c = 61 ∨ c = 58 then { s with wa := some c } else match brT c with
  | some f => f s
  | none => if 32 < c then emT s c 0 else s
def takeT (s : TS) (c : Int) : TS := if s.st = true then s else if c < 0 then { s with st := true } else match s.wa with
  | some w => skT s w c
  | none => if isDg c = true then { s with nu := some (10 * s.nu.getD 0 + c - 48) } else sgT (endN s) c
def finT (s : TS) : TS := if s.fi = true then s else { emT (endN s) 41 0 with wa := none, st := true, fi := true }
def t0 (first b : Int) : TS := ⟨[0, 32, 0, first], first, first + b, [], none, none, b, false, false, none⟩
/-- a translator of state s stands at x, its image at qi, its pile at qp -/
def RA (C : Addr) (H : Hp) (x dx qi qp : Addr) (s : TS) : Prop := H x = some (.ins C dx (FF s qi qp)) ∧ H qi = some (.lst (s.im.map V.int)) ∧ H qp = some (.lst (s.pl.map V.int)) ∧ qi ≠ qp
section
variable {C x dx qi qp : Addr} {H H' H1 : Hp} {s s' : TS}
theorem RA.nx (h : RA C H x dx qi qp s) : qi ≠ x := ne_of h.2.1 h.1 (by intro z; cases z)
theorem RA.px (h : RA C H x dx qi qp s) : qp ≠ x := ne_of h.2.2.1 h.1 (by intro z; cases z)
theorem RA.ex (h : RA C H x dx qi qp s) (e : Ex H H') : RA C H' x dx qi qp s := ⟨e _ _ h.1, e _ _ h.2.1, e _ _ h.2.2.1, h.2.2.2⟩
theorem RA.bu {L : List Addr} (h : RA C H x dx qi qp s) (e : Bu L H H') (h1 : x ∉ L) (h2 : qi ∉ L) (h3 : qp ∉ L) : RA C H' x dx qi qp s := ⟨e _ _ h1 h.1, e _ _ h2 h.2.1, e _ _ h3 h.2.2.1, h.2.2.2⟩
theorem RA.set (h : RA C H x dx qi qp s) (s' : TS) (e1 : s'.im = s.im) (e2 : s'.pl = s.pl) : RA C (upd H x (.ins C dx (FF s' qi qp))) x dx qi qp s' := ⟨upd_same, by rw [upd_ne h.nx, e1]; exact h.2.1, by rw [upd_ne h.px, e2]; exact h.2.2.1, h.2.2.2⟩
theorem RA.img (h : RA C H x dx qi qp s) (l : List Int) : RA C (upd H qi (.lst (l.map V.int))) x dx qi qp { s with im := l } := ⟨by rw [upd_ne (Ne.symm h.nx)]; exact h.1, upd_same, by rw [upd_ne (Ne.symm h.2.2.2)]; exact h.2.2.1, h.2.2.2⟩
theorem RA.pil (h : RA C H x dx qi qp s) (l : List Int) : RA C (upd H qp (.lst (l.map V.int))) x dx qi qp { s with pl := l } := ⟨by rw [upd_ne (Ne.symm h.px)]; exact h.1, by rw [upd_ne h.2.2.2]; exact h.2.1, upd_same, h.2.2.2⟩
theorem bu_x {o : HO} (b : Bu [x, qi, qp] H H') : Bu [x, qi, qp] H (upd H' x o) := b.upd (.inl (by simp))
theorem bu_i {o : HO} (b : Bu [x, qi, qp] H H') : Bu [x, qi, qp] H (upd H' qi o) := b.upd (.inl (by simp))
theorem bu_p {o : HO} (b : Bu [x, qi, qp] H H') : Bu [x, qi, qp] H (upd H' qp o) := b.upd (.inl (by simp))
end
theorem ff_len {s : TS} {qi qp : Addr} : (FF s qi qp).length < 1000 := by show 9 < 1000; decide
theorem lk_i {s : TS} {qi qp : Addr} : (FF s qi qp).lookup ("image" : Str) = some (.ref qi) := rfl
theorem lk_m {s : TS} {qi qp : Addr} : (FF s qi qp).lookup ("m" : Str) = some (.int s.m) := rfl
theorem lk_k {s : TS} {qi qp : Addr} : (FF s qi qp).lookup ("k" : Str) = some (.int s.k) := rfl
theorem lk_p {s : TS} {qi qp : Addr} : (FF s qi qp).lookup ("pile" : Str) = some (.ref qp) := rfl
theorem lk_n {s : TS} {qi qp : Addr} : (FF s qi qp).lookup ("numeral" : Str) = some (optV s.nu) := rfl
theorem lk_w {s : TS} {qi qp : Addr} : (FF s qi qp).lookup ("waiting" : Str) = some (optV s.wa) := rfl
theorem lk_b {s : TS} {qi qp : Addr} : (FF s qi qp).lookup ("_by" : Str) = some (.int s.b) := rfl
theorem lk_s {s : TS} {qi qp : Addr} : (FF s qi qp).lookup ("_stopped" : Str) = some (.bl s.st) := rfl
theorem lk_f {s : TS} {qi qp : Addr} : (FF s qi qp).lookup ("_finished" : Str) = some (.bl s.fi) := rfl
theorem pt_m {s : TS} {qi qp : Addr} {z : Int} : putF "m" (.int z) (FF s qi qp) = FF { s with m := z } qi qp := rfl
theorem pt_k {s : TS} {qi qp : Addr} {z : Int} : putF "k" (.int z) (FF s qi qp) = FF { s with k := z } qi qp := rfl
theorem pt_n {s : TS} {qi qp : Addr} {z : Option Int} : putF "numeral" (optV z) (FF s qi qp) = FF { s with nu := z } qi qp := rfl
theorem pt_w {s : TS} {qi qp : Addr} {z : Option Int} : putF "waiting" (optV z) (FF s qi qp) = FF { s with wa := z } qi qp := rfl
theorem pt_s {s : TS} {qi qp : Addr} {z : Bool} : putF "_stopped" (.bl z) (FF s qi qp) = FF { s with st := z } qi qp := rfl
theorem pt_f {s : TS} {qi qp : Addr} {z : Bool} : putF "_finished" (.bl z) (FF s qi qp) = FF { s with fi := z } qi qp := rfl
def Tr (C x dx qi qp : Addr) (H : Hp) (s' : TS) (r : V) : V → Hp → Prop := fun v H' => v = r ∧ RA C H' x dx qi qp s' ∧ Bu [x, qi, qp] H H'
theorem tr_bk {C x dx qi qp : Addr} {H H1 H' : Hp} {s' : TS} {r v : V} (h : Tr C x dx qi qp H1 s' r v H') (b : Bu [x, qi, qp] H H1) : Tr C x dx qi qp H s' r v H' := ⟨h.1, h.2.1, b.trans h.2.2⟩
/-- a method that turns the state -/
def spT {α : Type} (C : Addr) (n : Nat) (arg : α → List V) (f : TS → α → TS) (r : TS → α → V) : Sp := fun vs H Q _ => ∃ (x dx qi qp : Addr) (s : TS) (a : α), vs = .ref x :: arg a ∧ RA C H x dx qi qp s ∧ s.im.length ≤ n ∧ s.pl.length ≤ n ∧ ∀ v H', Tr C x dx qi qp H (f s a) (r s a) v H' → Q v H'
theorem ep_T {α : Type} {C x dx qi qp : Addr} {n : Nat} {arg : α → List V} {f : TS → α → TS} {r : TS → α → V} {m : Str} {s : TS} {σ : L2.St} {H : Hp} {to : TE} {t : TA} (a : α) (ho : Ev to σ H (.ref x)) (hR : RA C H x dx qi qp s) (hz : s.im.length ≤ n) (hp : s.pl.length ≤ n) (ht : EvA t σ H (arg a))
    (hl : (FF s qi qp).lookup m = none := by rfl) : EvP (tMeth C m (spT C n arg f r) [] E0 to t) σ H (Tr C x dx qi qp H (f s a) (r s a)) :=
  ep_meth ho hR.1 hl ht fun H1 e1 Q k => ⟨x, dx, qi, qp, s, a, by rw [List.append_nil], hR.ex e1, hz, hp, fun v H' h => k v H' (tr_bk h (ex_bu e1))⟩
def sp_Translator_init (K : PySem.W.Frag) (C : Addr) : Sp := fun vs H Q _ => ∃ (x dx : Addr) (first b : Int), vs = [.ref x, .int first, .int b] ∧ H x = some (.ins C dx []) ∧ ∀ qi qp H', H qi = none → H qp = none → RA C H' x dx qi qp (t0 first b) → (∀ c o, c ≠ x → H c = some o → H' c = some o) → Q .non H'
theorem ok_Translator_init (T : Txt K mg) : FnOk P w K mg base CX0 1 T.f_Translator_init T.d_Translator_init ["self", "first", "by"] (sp_Translator_init K T.C_Translator) := by
  refine T.F_Translator_init.ok sc_Translator_init (fun vs H Q E h => ?_) (fun cdv A outer s H vs Q E hr h => ?_)
  · obtain ⟨x, dx, first, b, rfl, _⟩ := h
    rfl
  · obtain ⟨x, dx, first, b, rfl, hx, k⟩ := h
    refine ⟨_, (pss_cons (ps_fld (pv 0) (pe_lst (pa_cons pe_int (pa_cons (pe_glob (v := .int 32) (by rfl) T.c_NOP ⟨_, rfl⟩) (pa_cons pe_int (pa_cons (pv 1) pa_nil))))) rfl)
        (pss_cons (ps_fld (pv 0) (pv 1) rfl)
        (pss_cons (ps_fld (pv 0) (pe_op op_add (pv 1) (pv 2)) rfl)
        (pss_cons (ps_fld (pv 0) (pe_lst pa_nil) rfl)
        (pss_cons (ps_fld (pv 0) pe_non rfl)
        (pss_cons (ps_fld (pv 0) pe_non rfl)
        (pss_cons (ps_fld (pv 0) (pv 2) rfl)
        (pss_cons (ps_fld (pv 0) pe_bl rfl)
        (pss_one (ps_fld (pv 0) pe_bl rfl)))))))))), ?_⟩
    refine q_fldL (el_lst (vs := [.int 0, .int 32, .int 0, .int first]) (ea_cons ev_c (ea_cons ev_c (ea_cons ev_c (ea_cons (ev_var rfl) ea_nil)))) (by show 4 ≤ 100000; decide)) (ev_var rfl) hx T.cl_Translator T.na_Translator_image (by decide) (fun qi H1 hq1 e1 d1 => ?_)
    have n1 : qi ≠ x := Ne.symm (ne_of_none hx hq1)
    have d1' : (upd H1 x (.ins T.C_Translator dx (putF "image" (.ref qi) []))) qi = some (.lst [.int 0, .int 32, .int 0, .int first]) := by rw [upd_ne n1]; exact d1
    have b1 : ∀ c o, c ≠ x → H c = some o → (upd H1 x (.ins T.C_Translator dx (putF "image" (.ref qi) []))) c = some o := fun c o n h => by rw [upd_ne n]; exact e1 _ _ h
    have x1 : (upd H1 x (.ins T.C_Translator dx (putF "image" (.ref qi) []))) x = some (.ins T.C_Translator dx [("image", .ref qi)]) := upd_same
    generalize upd H1 x (.ins T.C_Translator dx (putF "image" (.ref qi) [])) = H1 at *
    refine q_fld (ev_var rfl) (ev_var rfl) x1 T.cl_Translator T.na_Translator_m (by show 1 < 1000; decide) (fun H2 e2 => ?_)
    refine q_fld (ev_op (ev_var rfl) (ev_var rfl) rv_I0) (ev_var rfl) upd_same T.cl_Translator T.na_Translator_k (by show 2 < 1000; decide) (fun H3 e3 => ?_)
    refine q_fldL (el_lst ea_nil (by decide)) (ev_var rfl) upd_same T.cl_Translator T.na_Translator_pile (by show 3 < 1000; decide) (fun qp H4 hq4 e4 d4 => ?_)
    have n4 : qp ≠ x := fun e => by rw [e, upd_same] at hq4; cases hq4
    have b4 : ∀ c o, c ≠ x → H1 c = some o → H4 c = some o := fun c o n h => e4 _ _ (by rw [upd_ne n]; exact e3 _ _ (by rw [upd_ne n]; exact e2 _ _ h))
    have b3 : ∀ c o, c ≠ x → H1 c = some o → (upd H3 x (.ins T.C_Translator dx (putF "k" (.int (first + b)) (putF "m" (.int first) [("image", .ref qi)])))) c = some o := fun c o n h => by rw [upd_ne n]; exact e3 _ _ (by rw [upd_ne n]; exact e2 _ _ h)
    have hqp0 : H qp = none := by
      cases e : H qp with
      | none => rfl
      | some o =>
        rw [b3 _ _ n4 (b1 _ _ n4 e)] at hq4
        cases hq4
    have nip : qi ≠ qp := fun e => by
      rw [← e, b3 _ _ n1 d1'] at hq4
      cases hq4
    have i4 := b4 _ _ n1 d1'
    have c4 : ∀ c o, c ≠ x → H c = some o → H4 c = some o := fun c o n h => b4 _ _ n (b1 _ _ n h)
    clear b3 b4
    refine q_fld ev_c (ev_var rfl) upd_same T.cl_Translator T.na_Translator_numeral (by show 4 < 1000; decide) (fun H5 e5 => ?_)
    refine q_fld ev_c (ev_var rfl) upd_same T.cl_Translator T.na_Translator_waiting (by show 5 < 1000; decide) (fun H6 e6 => ?_)
    refine q_fld (ev_var rfl) (ev_var rfl) upd_same T.cl_Translator T.na_Translator_by (by show 6 < 1000; decide) (fun H7 e7 => ?_)
    refine q_fld ev_c (ev_var rfl) upd_same T.cl_Translator T.na_Translator_stopped (by show 7 < 1000; decide) (fun H8 e8 => ?_)
    refine s_fld ev_c (ev_var rfl) upd_same T.cl_Translator T.na_Translator_finished (by show 8 < 1000; decide) (fun H9 e9 => ?_)
    have b9 : ∀ c o, c ≠ x → H4 c = some o → H9 c = some o := fun c o n h => e9 _ _ (by rw [upd_ne n]; exact e8 _ _ (by rw [upd_ne n]; exact e7 _ _ (by rw [upd_ne n]; exact e6 _ _ (by rw [upd_ne n]; exact e5 _ _ (by rw [upd_ne n]; exact h)))))
    refine k qi qp _ hq1 hqp0 ⟨upd_same, ?_, ?_, nip⟩ (fun c o n h => by rw [upd_ne n]; exact b9 _ _ n (c4 _ _ n h))
    · rw [upd_ne n1]
      exact b9 _ _ n1 i4
    · rw [upd_ne n4]
      exact b9 _ _ n4 d4
def sp_Translator_popped (K : PySem.W.Frag) (C : Addr) : Sp := spT C 90000 (fun _ : Unit => []) (fun s _ => popT s) (fun s _ => .int (topT s))
theorem ok_Translator_popped (T : Txt K mg) : FnOk P w K mg base CX0 1 T.f_Translator_popped T.d_Translator_popped ["self"] (sp_Translator_popped K T.C_Translator) := by
  refine T.F_Translator_popped.ok sc_Translator_popped (fun vs H Q E h => ?_) (fun cdv A outer s H vs Q E hr h => ?_)
  · obtain ⟨x, dx, qi, qp, s, a, rfl, _⟩ := h
    rfl
  · obtain ⟨x, dx, qi, qp, s, a, rfl, hR, hz, hp, k⟩ := h
    refine ⟨_, (pss_one (ps_ret (pe_ifExp (pt_truth (pe_fld (pv 0) rfl) (by intro _; rfl)) (pe_bm0 PySem.F.plainAttrs_list PySem.F.slot_list_pop PySem.F.type_list_pop mt_pop (pe_fld (pv 0) rfl)) pe_int))), ?_⟩
    have fp : Ev (tFld K (tVar 0) "pile") (L2.start N_Translator_popped [.ref x]) H (.ref qp) := ev_fld (ev_var rfl) hR.1 T.cl_Translator T.na_Translator_pile lk_p
    refine s_retP (P := Tr T.C_Translator x dx qi qp H (popT s) (.int (topT s))) (fun Q q => et_truL (K := K) fp (sq_of hR.2.2.1) H (Ex.refl H) _ fun H1 e1 => ?_) k
    have hR1 := hR.ex e1
    cases hl : s.pl with
    | nil =>
      rw [if_neg (by decide)]
      refine q _ H1 ⟨?_, ?_, ex_bu e1⟩
      · unfold topT; rw [hl]; rfl
      · have : popT s = s := by unfold popT; rw [hl]; cases s; simp at hl; subst hl; rfl
        rw [this]
        exact hR1
    | cons c r =>
      rw [if_pos (show (!(List.map V.int (c :: r)).isEmpty) = true from rfl)]
      have hne : s.pl ≠ [] := by rw [hl]; exact List.cons_ne_nil _ _
      have hd : s.pl = s.pl.dropLast ++ [topT s] := by
        unfold topT
        rw [List.getLast?_eq_some_getLast hne]
        exact (List.dropLast_concat_getLast hne).symm
      have hq := hR1.2.2.1
      rw [hd, List.map_append] at hq
      have hm := congrArg (List.map V.int) hd
      rw [List.map_append] at hm
      refine fp H1 e1 _ fun H2 e2 => ⟨.inl ⟨rfl, _, sq_of (e2 _ _ hq)⟩, qp, s.pl.dropLast.map V.int ++ [.int (topT s)], .int (topT s), rfl, rfl, e2 _ _ hq, ?_, ?_⟩
      · rw [List.length_append]
        simp
      · refine q _ _ ⟨rfl, ?_, bu_p (ex_bu (e1.trans e2))⟩
        rw [List.dropLast_concat]
        exact (hR1.ex e2).pil s.pl.dropLast
def sp_Translator_taken_number (K : PySem.W.Frag) (C : Addr) : Sp := spT C 90000 (fun _ : Unit => []) (fun s _ => takT s) (fun s _ => .int s.k)
theorem ok_Translator_taken_number (T : Txt K mg) : FnOk P w K mg base CX0 1 T.f_Translator_taken_number T.d_Translator_taken_number ["self"] (sp_Translator_taken_number K T.C_Translator) := by
  refine T.F_Translator_taken_number.ok sc_Translator_taken_number (fun vs H Q E h => ?_) (fun cdv A outer s H vs Q E hr h => ?_)
  · obtain ⟨x, dx, qi, qp, s, a, rfl, _⟩ := h
    rfl
  · obtain ⟨x, dx, qi, qp, s, a, rfl, hR, hz, hp, k⟩ := h
    refine ⟨_, (pss_cons (ps_set (i := 1) sc_Translator_taken_number.nd rfl (Or.inl rfl) (pe_fld (pv 0) rfl))
        (pss_cons (ps_fld (pv 0) (pe_op op_add (pv 1) (pe_fld (pv 0) rfl)) rfl)
        (pss_one (ps_ret (pv 1))))), ?_⟩
    refine q_asg (ev_fld (ev_var rfl) hR.1 T.cl_Translator T.na_Translator_k lk_k) (fun H1 e1 => ?_)
    have hR1 := hR.ex e1
    refine q_fld (ev_op (ev_var rfl) (ev_fld (ev_var rfl) hR1.1 T.cl_Translator T.na_Translator_by lk_b) rv_I0) (ev_var rfl) hR1.1 T.cl_Translator T.na_Translator_k ff_len (fun H2 e2 => ?_)
    rw [pt_k]
    exact s_ret (ev_var rfl) fun H3 e3 => k _ H3 ⟨rfl, ((hR1.ex e2).set (takT s) rfl rfl).ex e3, (bu_x (ex_bu (e1.trans e2))).trans (ex_bu e3)⟩
def sp_Translator_append_node (K : PySem.W.Frag) (C : Addr) : Sp := spT C 80000 (fun a : Int × Int × Int => [.int a.1, .int a.2.1, .int a.2.2]) (fun s a => appT s a.1 a.2.1 a.2.2) (fun _ _ => .non)
theorem ok_Translator_append_node (T : Txt K mg) : FnOk P w K mg base CX0 1 T.f_Translator_append_node T.d_Translator_append_node ["self", "operation", "argument", "successor"] (sp_Translator_append_node K T.C_Translator) := by
  refine T.F_Translator_append_node.ok sc_Translator_append_node (fun vs H Q E h => ?_) (fun cdv A outer s H vs Q E hr h => ?_)
  · obtain ⟨x, dx, qi, qp, s, a, rfl, _⟩ := h
    rfl
  · obtain ⟨x, dx, qi, qp, s, ⟨op, arg, su⟩, rfl, hR, hz, hp, k⟩ := h
    refine ⟨_, (pss_one (ps_expr (pe_bm PySem.F.plainAttrs_list PySem.F.slot_list_extend PySem.F.type_list_extend mt_extend (pe_fld (pv 0) rfl) (pa_cons (pe_lst (pa_cons (pe_fld (pv 0) rfl) (pa_cons (pv 1) (pa_cons (pv 2) (pa_cons (pv 3) pa_nil))))) pa_nil)))), ?_⟩
    refine s_ext hR.2.1 (ev_fld (ev_var rfl) hR.1 T.cl_Translator T.na_Translator_image lk_i) (el_lst (vs := [.int s.m, .int op, .int arg, .int su]) (ea_cons (ev_fld (ev_var rfl) hR.1 T.cl_Translator T.na_Translator_m lk_m) (ea_cons (ev_var rfl) (ea_cons (ev_var rfl) (ea_cons (ev_var rfl) ea_nil)))) (by show 4 ≤ 100000; decide)) (by rw [List.length_map]; show s.im.length + 4 ≤ 100000; omega) (fun H1 e1 => ?_)
    have e : s.im.map V.int ++ [.int s.m, .int op, .int arg, .int su] = (s.im ++ [s.m, op, arg, su]).map V.int := by rw [List.map_append]; rfl
    rw [e]
    exact k _ _ ⟨rfl, (hR.ex e1).img _, bu_i (ex_bu e1)⟩
def sp_Translator_emit (K : PySem.W.Frag) (C : Addr) : Sp := spT C 70000 (fun a : Int × Int => [.int a.1, .int a.2]) (fun s a => emT s a.1 a.2) (fun _ _ => .non)
theorem ok_Translator_emit (T : Txt K mg) : FnOk P w K mg base CX0 2 T.f_Translator_emit T.d_Translator_emit ["self", "operation", "argument"] (sp_Translator_emit K T.C_Translator) := by
  refine T.F_Translator_emit.ok sc_Translator_emit (fun vs H Q E h => ?_) (fun cdv A outer s H vs Q E hr h => ?_)
  · obtain ⟨x, dx, qi, qp, s, a, rfl, _⟩ := h
    rfl
  · obtain ⟨x, dx, qi, qp, s, ⟨op, arg⟩, rfl, hR, hz, hp, k⟩ := h
    refine ⟨_, (pss_cons (ps_set (i := 3) sc_Translator_emit.nd rfl (Or.inl rfl) (pe_meth0 (pv 0) T.cl_Translator T.m_Translator_taken_number (ok_Translator_taken_number T) (hr.mono (by decide)) T.b_Translator_taken_number .nil pass0))
        (pss_cons (ps_expr (pe_meth (pv 0) T.cl_Translator T.m_Translator_append_node (ok_Translator_append_node T) (hr.mono (by decide)) T.b_Translator_append_node .nil pass0 (pa_cons (pv 1) (pa_cons (pv 2) (pa_cons (pv 3) pa_nil)))))
        (pss_one (ps_fld (pv 0) (pv 3) rfl)))), ?_⟩
    refine q_asgP (ep_T () (ev_var rfl) hR (by omega) (by omega) ea_nil) (fun v H1 h1 => ?_)
    obtain ⟨rfl, hR1, b1⟩ := h1
    refine q_dropP (ep_T (op, arg, s.k) (ev_var rfl) hR1 (by show s.im.length ≤ 80000; omega) (by show s.pl.length ≤ 80000; omega) (ea_cons (ev_var rfl) (ea_cons (ev_var rfl) (ea_cons (ev_var rfl) ea_nil)))) (fun v H2 h2 => ?_)
    obtain ⟨_, hR2, b2⟩ := h2
    refine s_fld (ev_var rfl) (ev_var rfl) hR2.1 T.cl_Translator T.na_Translator_m ff_len (fun H3 e3 => ?_)
    rw [pt_m]
    exact k _ _ ⟨rfl, (hR2.ex e3).set (emT s op arg) rfl rfl, bu_x ((b1.trans b2).trans (ex_bu e3))⟩
/-! ### brackets -/
def spB (C : Addr) (f : TS → TS) : Sp := spT C 60000 (fun _ : Unit => []) (fun s _ => f s) (fun _ _ => .non)
def sp_begin_choice (K : PySem.W.Frag) (C : Addr) : Sp := spB C b91
theorem ok_begin_choice (T : Txt K mg) : FnOk P w K mg base CX0 3 T.f_begin_choice T.d_begin_choice ["translator"] (sp_begin_choice K T.C_Translator) := by
  refine T.F_begin_choice.ok sc_begin_choice (fun vs H Q E h => ?_) (fun cdv A outer s H vs Q E hr h => ?_)
  · obtain ⟨x, dx, qi, qp, s, a, rfl, _⟩ := h
    rfl
  · obtain ⟨x, dx, qi, qp, s, a, rfl, hR, hz, hp, k⟩ := h
    refine ⟨_, (pss_cons (ps_set (i := 1) sc_begin_choice.nd rfl (Or.inl rfl) (pe_meth0 (pv 0) T.cl_Translator T.m_Translator_taken_number (ok_Translator_taken_number T) (hr.mono (by decide)) T.b_Translator_taken_number .nil pass0))
        (pss_cons (ps_expr (pe_bm PySem.F.plainAttrs_list PySem.F.slot_list_append PySem.F.type_list_append mt_append (pe_fld (pv 0) rfl) (pa_cons (pv 1) pa_nil)))
        (pss_one (ps_expr (pe_meth (pv 0) T.cl_Translator T.m_Translator_emit (ok_Translator_emit T) (hr.mono (by decide)) T.b_Translator_emit .nil pass0 (pa_cons (pe_glob (v := .int 63) (by rfl) T.c_BRANCH ⟨_, rfl⟩) (pa_cons (pv 1) pa_nil))))))), ?_⟩
    refine q_asgP (ep_T () (ev_var rfl) hR (by omega) (by omega) ea_nil) (fun v H1 h1 => ?_)
    obtain ⟨rfl, hR1, b1⟩ := h1
    refine q_app hR1.2.2.1 (ev_fld (ev_var rfl) hR1.1 T.cl_Translator T.na_Translator_pile lk_p) (ev_var rfl) (by rw [List.length_map]; show s.pl.length < 100000; omega) (fun H2 e2 => ?_)
    have e : (takT s).pl.map V.int ++ [.int s.k] = (s.pl ++ [s.k]).map V.int := by rw [List.map_append]; rfl
    rw [e]
    have hR2 := (hR1.ex e2).pil (s.pl ++ [s.k])
    refine s_dropP (ep_T (63, s.k) (ev_var rfl) hR2 (by show s.im.length ≤ 70000; omega) (by show (s.pl ++ [s.k]).length ≤ 70000; rw [List.length_append]; simp; omega) (ea_cons ev_c (ea_cons (ev_var rfl) ea_nil))) (fun v H3 h3 => ?_)
    exact k _ _ ⟨rfl, h3.2.1, (bu_p (b1.trans (ex_bu e2))).trans h3.2.2⟩
def sp_turn_choice (K : PySem.W.Frag) (C : Addr) : Sp := spB C b124
theorem ok_turn_choice (T : Txt K mg) : FnOk P w K mg base CX0 2 T.f_turn_choice T.d_turn_choice ["translator"] (sp_turn_choice K T.C_Translator) := by
  refine T.F_turn_choice.ok sc_turn_choice (fun vs H Q E h => ?_) (fun cdv A outer s H vs Q E hr h => ?_)
  · obtain ⟨x, dx, qi, qp, s, a, rfl, _⟩ := h
    rfl
  · obtain ⟨x, dx, qi, qp, s, a, rfl, hR, hz, hp, k⟩ := h
    refine ⟨_, (pss_cons (ps_set (i := 1) sc_turn_choice.nd rfl (Or.inl rfl) (pe_meth0 (pv 0) T.cl_Translator T.m_Translator_taken_number (ok_Translator_taken_number T) (hr.mono (by decide)) T.b_Translator_taken_number .nil pass0))
        (pss_cons (ps_expr (pe_meth (pv 0) T.cl_Translator T.m_Translator_append_node (ok_Translator_append_node T) (hr.mono (by decide)) T.b_Translator_append_node .nil pass0 (pa_cons (pe_glob (v := .int 32) (by rfl) T.c_NOP ⟨_, rfl⟩) (pa_cons pe_int (pa_cons (pv 1) pa_nil)))))
        (pss_cons (ps_fld (pv 0) (pe_meth0 (pv 0) T.cl_Translator T.m_Translator_popped (ok_Translator_popped T) (hr.mono (by decide)) T.b_Translator_popped .nil pass0) rfl)
        (pss_one (ps_expr (pe_bm PySem.F.plainAttrs_list PySem.F.slot_list_append PySem.F.type_list_append mt_append (pe_fld (pv 0) rfl) (pa_cons (pv 1) pa_nil))))))), ?_⟩
    refine q_asgP (ep_T () (ev_var rfl) hR (by omega) (by omega) ea_nil) (fun v H1 h1 => ?_)
    obtain ⟨rfl, hR1, b1⟩ := h1
    refine q_dropP (ep_T (32, 0, s.k) (ev_var rfl) hR1 (by show s.im.length ≤ 80000; omega) (by show s.pl.length ≤ 80000; omega) (ea_cons ev_c (ea_cons ev_c (ea_cons (ev_var rfl) ea_nil)))) (fun v H2 h2 => ?_)
    obtain ⟨_, hR2, b2⟩ := h2
    refine q_fldP (ep_T () (ev_var rfl) hR2 (by show (s.im ++ [s.m, 32, 0, s.k]).length ≤ 90000; rw [List.length_append]; simp; omega) (by show s.pl.length ≤ 90000; omega) ea_nil) (fun v H3 h3 => ⟨_, _, _, h3.2.1.1, fun _ _ => ev_var rfl, T.cl_Translator, T.na_Translator_m, ff_len, fun H4 e4 => ?_⟩)
    obtain ⟨rfl, hR3, b3⟩ := h3
    rw [pt_m]
    have hR4 := (hR3.ex e4).set { (popT (appT (takT s) 32 0 s.k)) with m := topT s } rfl rfl
    refine s_app hR4.2.2.1 (ev_fld (ev_var rfl) hR4.1 T.cl_Translator T.na_Translator_pile lk_p) (ev_var rfl) (by rw [List.length_map]; show s.pl.dropLast.length < 100000; rw [List.length_dropLast]; omega) (fun H5 e5 => ?_)
    have e : ({ (popT (appT (takT s) 32 0 s.k)) with m := topT s } : TS).pl.map V.int ++ [.int s.k] = (s.pl.dropLast ++ [s.k]).map V.int := by rw [List.map_append]; rfl
    rw [e]
    exact k _ _ ⟨rfl, (hR4.ex e5).pil (s.pl.dropLast ++ [s.k]), bu_p ((bu_x (((b1.trans b2).trans b3).trans (ex_bu e4))).trans (ex_bu e5))⟩
def sp_end_choice (K : PySem.W.Frag) (C : Addr) : Sp := spB C b93
theorem ok_end_choice (T : Txt K mg) : FnOk P w K mg base CX0 2 T.f_end_choice T.d_end_choice ["translator"] (sp_end_choice K T.C_Translator) := by
  refine T.F_end_choice.ok sc_end_choice (fun vs H Q E h => ?_) (fun cdv A outer s H vs Q E hr h => ?_)
  · obtain ⟨x, dx, qi, qp, s, a, rfl, _⟩ := h
    rfl
  · obtain ⟨x, dx, qi, qp, s, a, rfl, hR, hz, hp, k⟩ := h
    refine ⟨_, (pss_cons (ps_set (i := 1) sc_end_choice.nd rfl (Or.inl rfl) (pe_meth0 (pv 0) T.cl_Translator T.m_Translator_popped (ok_Translator_popped T) (hr.mono (by decide)) T.b_Translator_popped .nil pass0))
        (pss_cons (ps_expr (pe_meth (pv 0) T.cl_Translator T.m_Translator_append_node (ok_Translator_append_node T) (hr.mono (by decide)) T.b_Translator_append_node .nil pass0 (pa_cons (pe_glob (v := .int 32) (by rfl) T.c_NOP ⟨_, rfl⟩) (pa_cons pe_int (pa_cons (pv 1) pa_nil)))))
        (pss_one (ps_fld (pv 0) (pv 1) rfl)))), ?_⟩
    refine q_asgP (ep_T () (ev_var rfl) hR (by omega) (by omega) ea_nil) (fun v H1 h1 => ?_)
    obtain ⟨rfl, hR1, b1⟩ := h1
    refine q_dropP (ep_T (32, 0, topT s) (ev_var rfl) hR1 (by show s.im.length ≤ 80000; omega) (by show s.pl.dropLast.length ≤ 80000; rw [List.length_dropLast]; omega) (ea_cons ev_c (ea_cons ev_c (ea_cons (ev_var rfl) ea_nil)))) (fun v H2 h2 => ?_)
    obtain ⟨_, hR2, b2⟩ := h2
    refine s_fld (ev_var rfl) (ev_var rfl) hR2.1 T.cl_Translator T.na_Translator_m ff_len (fun H3 e3 => ?_)
    rw [pt_m]
    exact k _ _ ⟨rfl, (hR2.ex e3).set (b93 s) rfl rfl, bu_x ((b1.trans b2).trans (ex_bu e3))⟩
def sp_begin_loop (K : PySem.W.Frag) (C : Addr) : Sp := spB C b123
theorem ok_begin_loop (T : Txt K mg) : FnOk P w K mg base CX0 2 T.f_begin_loop T.d_begin_loop ["translator"] (sp_begin_loop K T.C_Translator) := by
  refine T.F_begin_loop.ok sc_begin_loop (fun vs H Q E h => ?_) (fun cdv A outer s H vs Q E hr h => ?_)
  · obtain ⟨x, dx, qi, qp, s, a, rfl, _⟩ := h
    rfl
  · obtain ⟨x, dx, qi, qp, s, a, rfl, hR, hz, hp, k⟩ := h
    refine ⟨_, (pss_cons (ps_set (i := 1) sc_begin_loop.nd rfl (Or.inl rfl) (pe_meth0 (pv 0) T.cl_Translator T.m_Translator_taken_number (ok_Translator_taken_number T) (hr.mono (by decide)) T.b_Translator_taken_number .nil pass0))
        (pss_cons (ps_expr (pe_meth (pv 0) T.cl_Translator T.m_Translator_append_node (ok_Translator_append_node T) (hr.mono (by decide)) T.b_Translator_append_node .nil pass0 (pa_cons (pe_glob (v := .int 32) (by rfl) T.c_NOP ⟨_, rfl⟩) (pa_cons pe_int (pa_cons (pv 1) pa_nil)))))
        (pss_cons (ps_fld (pv 0) (pv 1) rfl)
        (pss_one (ps_expr (pe_bm PySem.F.plainAttrs_list PySem.F.slot_list_append PySem.F.type_list_append mt_append (pe_fld (pv 0) rfl) (pa_cons (pv 1) pa_nil))))))), ?_⟩
    refine q_asgP (ep_T () (ev_var rfl) hR (by omega) (by omega) ea_nil) (fun v H1 h1 => ?_)
    obtain ⟨rfl, hR1, b1⟩ := h1
    refine q_dropP (ep_T (32, 0, s.k) (ev_var rfl) hR1 (by show s.im.length ≤ 80000; omega) (by show s.pl.length ≤ 80000; omega) (ea_cons ev_c (ea_cons ev_c (ea_cons (ev_var rfl) ea_nil)))) (fun v H2 h2 => ?_)
    obtain ⟨_, hR2, b2⟩ := h2
    refine q_fld (ev_var rfl) (ev_var rfl) hR2.1 T.cl_Translator T.na_Translator_m ff_len (fun H3 e3 => ?_)
    rw [pt_m]
    have hR3 := (hR2.ex e3).set { (appT (takT s) 32 0 s.k) with m := s.k } rfl rfl
    refine s_app hR3.2.2.1 (ev_fld (ev_var rfl) hR3.1 T.cl_Translator T.na_Translator_pile lk_p) (ev_var rfl) (by rw [List.length_map]; show s.pl.length < 100000; omega) (fun H5 e5 => ?_)
    have e : ({ (appT (takT s) 32 0 s.k) with m := s.k } : TS).pl.map V.int ++ [.int s.k] = (s.pl ++ [s.k]).map V.int := by rw [List.map_append]; rfl
    rw [e]
    exact k _ _ ⟨rfl, (hR3.ex e5).pil (s.pl ++ [s.k]), bu_p ((bu_x ((b1.trans b2).trans (ex_bu e3))).trans (ex_bu e5))⟩
def sp_end_loop (K : PySem.W.Frag) (C : Addr) : Sp := spB C b125
theorem ok_end_loop (T : Txt K mg) : FnOk P w K mg base CX0 2 T.f_end_loop T.d_end_loop ["translator"] (sp_end_loop K T.C_Translator) := by
  refine T.F_end_loop.ok sc_end_loop (fun vs H Q E h => ?_) (fun cdv A outer s H vs Q E hr h => ?_)
  · obtain ⟨x, dx, qi, qp, s, a, rfl, _⟩ := h
    rfl
  · obtain ⟨x, dx, qi, qp, s, a, rfl, hR, hz, hp, k⟩ := h
    refine ⟨_, (pss_cons (ps_set (i := 1) sc_end_loop.nd rfl (Or.inl rfl) (pe_meth0 (pv 0) T.cl_Translator T.m_Translator_popped (ok_Translator_popped T) (hr.mono (by decide)) T.b_Translator_popped .nil pass0))
        (pss_cons (ps_set (i := 2) sc_end_loop.nd rfl (Or.inl rfl) (pe_meth0 (pv 0) T.cl_Translator T.m_Translator_taken_number (ok_Translator_taken_number T) (hr.mono (by decide)) T.b_Translator_taken_number .nil pass0))
        (pss_cons (ps_expr (pe_meth (pv 0) T.cl_Translator T.m_Translator_append_node (ok_Translator_append_node T) (hr.mono (by decide)) T.b_Translator_append_node .nil pass0 (pa_cons (pe_glob (v := .int 63) (by rfl) T.c_BRANCH ⟨_, rfl⟩) (pa_cons (pv 2) (pa_cons (pv 1) pa_nil)))))
        (pss_one (ps_fld (pv 0) (pv 2) rfl))))), ?_⟩
    refine q_asgP (ep_T () (ev_var rfl) hR (by omega) (by omega) ea_nil) (fun v H1 h1 => ?_)
    obtain ⟨rfl, hR1, b1⟩ := h1
    refine q_asgP (ep_T () (ev_var rfl) hR1 (by show s.im.length ≤ 90000; omega) (by show s.pl.dropLast.length ≤ 90000; rw [List.length_dropLast]; omega) ea_nil) (fun v H2 h2 => ?_)
    obtain ⟨rfl, hR2, b2⟩ := h2
    refine q_dropP (ep_T (63, s.k, topT s) (ev_var rfl) hR2 (by show s.im.length ≤ 80000; omega) (by show s.pl.dropLast.length ≤ 80000; rw [List.length_dropLast]; omega) (ea_cons ev_c (ea_cons (ev_var rfl) (ea_cons (ev_var rfl) ea_nil)))) (fun v H3 h3 => ?_)
    obtain ⟨_, hR3, b3⟩ := h3
    refine s_fld (ev_var rfl) (ev_var rfl) hR3.1 T.cl_Translator T.na_Translator_m ff_len (fun H4 e4 => ?_)
    rw [pt_m]
    exact k _ _ ⟨rfl, (hR3.ex e4).set (b125 s) rfl rfl, bu_x (((b1.trans b2).trans b3).trans (ex_bu e4))⟩
def sp_end_definition (K : PySem.W.Frag) (C : Addr) : Sp := spB C b59
theorem ok_end_definition (T : Txt K mg) : FnOk P w K mg base CX0 2 T.f_end_definition T.d_end_definition ["translator"] (sp_end_definition K T.C_Translator) := by
  refine T.F_end_definition.ok sc_end_definition (fun vs H Q E h => ?_) (fun cdv A outer s H vs Q E hr h => ?_)
  · obtain ⟨x, dx, qi, qp, s, a, rfl, _⟩ := h
    rfl
  · obtain ⟨x, dx, qi, qp, s, a, rfl, hR, hz, hp, k⟩ := h
    refine ⟨_, (pss_cons (ps_expr (pe_meth (pv 0) T.cl_Translator T.m_Translator_append_node (ok_Translator_append_node T) (hr.mono (by decide)) T.b_Translator_append_node .nil pass0 (pa_cons (pe_glob (v := .int 41) (by rfl) T.c_RETURN ⟨_, rfl⟩) (pa_cons pe_int (pa_cons pe_int pa_nil)))))
        (pss_one (ps_fld (pv 0) (pe_meth0 (pv 0) T.cl_Translator T.m_Translator_popped (ok_Translator_popped T) (hr.mono (by decide)) T.b_Translator_popped .nil pass0) rfl))), ?_⟩
    refine q_dropP (ep_T (41, 0, 1) (ev_var rfl) hR (by omega) (by omega) (ea_cons ev_c (ea_cons ev_c (ea_cons ev_c ea_nil)))) (fun v H2 h2 => ?_)
    obtain ⟨_, hR2, b2⟩ := h2
    refine s_fldP (ep_T () (ev_var rfl) hR2 (by show (s.im ++ [s.m, 41, 0, 1]).length ≤ 90000; rw [List.length_append]; simp; omega) (by show s.pl.length ≤ 90000; omega) ea_nil) (fun v H3 h3 => ⟨_, _, _, h3.2.1.1, fun _ _ => ev_var rfl, T.cl_Translator, T.na_Translator_m, ff_len, fun H4 e4 => ?_⟩)
    obtain ⟨rfl, hR3, b3⟩ := h3
    rw [pt_m]
    exact k _ _ ⟨rfl, (hR3.ex e4).set (b59 s) rfl rfl, bu_x ((b2.trans b3).trans (ex_bu e4))⟩
def S_BRACKETS (T : Txt K mg) : Addr → Option Sp := fun f =>
  if f = T.f_begin_choice then some (sp_begin_choice K T.C_Translator) else if f = T.f_turn_choice then some (sp_turn_choice K T.C_Translator) else if f = T.f_end_choice then some (sp_end_choice K T.C_Translator)
  else if f = T.f_begin_loop then some (sp_begin_loop K T.C_Translator) else if f = T.f_end_loop then some (sp_end_loop K T.C_Translator) else if f = T.f_end_definition then some (sp_end_definition K T.C_Translator) else none
theorem held_BRACKETS (T : Txt K mg) : ∀ f sp, S_BRACKETS T f = some sp → Held P w K mg base 3 f sp := by
  intro f sp h
  unfold S_BRACKETS at h
  split at h
  · rename_i e; subst e; cases h; exact ⟨_, _, (ok_begin_choice T).mono (by decide), T.F_begin_choice.kp, T.b_begin_choice⟩
  split at h
  · rename_i e; subst e; cases h; exact ⟨_, _, (ok_turn_choice T).mono (by decide), T.F_turn_choice.kp, T.b_turn_choice⟩
  split at h
  · rename_i e; subst e; cases h; exact ⟨_, _, (ok_end_choice T).mono (by decide), T.F_end_choice.kp, T.b_end_choice⟩
  split at h
  · rename_i e; subst e; cases h; exact ⟨_, _, (ok_begin_loop T).mono (by decide), T.F_begin_loop.kp, T.b_begin_loop⟩
  split at h
  · rename_i e; subst e; cases h; exact ⟨_, _, (ok_end_loop T).mono (by decide), T.F_end_loop.kp, T.b_end_loop⟩
  split at h
  · rename_i e; subst e; cases h; exact ⟨_, _, (ok_end_definition T).mono (by decide), T.F_end_definition.kp, T.b_end_definition⟩
  · cases h
theorem br_some (T : Txt K mg) {c : Int} {f : TS → TS} (h : brT c = some f) : ∃ a : Addr, ([(91, .ref T.f_begin_choice), (124, .ref T.f_turn_choice), (93, .ref T.f_end_choice), (123, .ref T.f_begin_loop), (125, .ref T.f_end_loop), (59, .ref T.f_end_definition)] : List (Int × Value)).lookup c = some (.ref a) ∧ S_BRACKETS T a = some (spB T.C_Translator f) := by
  have nd := T.nd_BRACKETS
  simp only [List.nodup_cons, List.mem_cons, List.not_mem_nil, or_false, not_or, not_false_eq_true, List.nodup_nil, and_true] at nd
  obtain ⟨⟨n12, n13, n14, n15, n16⟩, ⟨n23, n24, n25, n26⟩, ⟨n34, n35, n36⟩, ⟨n45, n46⟩, n56⟩ := nd
  unfold brT at h
  split at h
  · rename_i e; subst e; cases h; exact ⟨_, rfl, if_pos rfl⟩
  split at h
  · rename_i e; subst e; cases h; exact ⟨_, rfl, by unfold S_BRACKETS; rw [if_neg (Ne.symm n12), if_pos rfl]; rfl⟩
  split at h
  · rename_i e; subst e; cases h; exact ⟨_, rfl, by unfold S_BRACKETS; rw [if_neg (Ne.symm n13), if_neg (Ne.symm n23), if_pos rfl]; rfl⟩
  split at h
  · rename_i e; subst e; cases h; exact ⟨_, rfl, by unfold S_BRACKETS; rw [if_neg (Ne.symm n14), if_neg (Ne.symm n24), if_neg (Ne.symm n34), if_pos rfl]; rfl⟩
  split at h
  · rename_i e; subst e; cases h; exact ⟨_, rfl, by unfold S_BRACKETS; rw [if_neg (Ne.symm n15), if_neg (Ne.symm n25), if_neg (Ne.symm n35), if_neg (Ne.symm n45), if_pos rfl]; rfl⟩
  split at h
  · rename_i e; subst e; cases h; exact ⟨_, rfl, by unfold S_BRACKETS; rw [if_neg (Ne.symm n16), if_neg (Ne.symm n26), if_neg (Ne.symm n36), if_neg (Ne.symm n46), if_neg (Ne.symm n56), if_pos rfl]; rfl⟩
  · cases h
theorem br_none (T : Txt K mg) {c : Int} (h : brT c = none) : ([(91, .ref T.f_begin_choice), (124, .ref T.f_turn_choice), (93, .ref T.f_end_choice), (123, .ref T.f_begin_loop), (125, .ref T.f_end_loop), (59, .ref T.f_end_definition)] : List (Int × Value)).lookup c = none := by
  unfold brT at h
  repeat' split at h
  all_goals first | cases h | skip
  rename_i n1 n2 n3 n4 n5 n6
  have b : ∀ {i j : Int}, ¬ i = j → (i == j) = false := fun h => by simpa using h
  simp only [List.lookup_cons, b n1, b n2, b n3, b n4, b n5, b n6, List.lookup_nil]
def sp_Translator_end_numeral (K : PySem.W.Frag) (C : Addr) : Sp := spT C 60000 (fun _ : Unit => []) (fun s _ => endN s) (fun _ _ => .non)
theorem ok_Translator_end_numeral (T : Txt K mg) : FnOk P w K mg base CX0 3 T.f_Translator_end_numeral T.d_Translator_end_numeral ["self"] (sp_Translator_end_numeral K T.C_Translator) := by
  refine T.F_Translator_end_numeral.ok sc_Translator_end_numeral (fun vs H Q E h => ?_) (fun cdv A outer s H vs Q E hr h => ?_)
  · obtain ⟨x, dx, qi, qp, s, a, rfl, _⟩ := h
    rfl
  · obtain ⟨x, dx, qi, qp, s, a, rfl, hR, hz, hp, k⟩ := h
    refine ⟨_, (pss_one (ps_if (pt_cmpR op_notN (pe_fld (pv 0) rfl) pe_non (nomark _)) (pss_cons (ps_expr (pe_meth (pv 0) T.cl_Translator T.m_Translator_emit (ok_Translator_emit T) (hr.mono (by decide)) T.b_Translator_emit .nil pass0 (pa_cons (pe_glob (v := .int 35) (by rfl) T.c_PUSH ⟨_, rfl⟩) (pa_cons (pe_fld (pv 0) rfl) pa_nil))))
        (pss_one (ps_fld (pv 0) pe_non rfl))) pss_nil)), ?_⟩
    refine s_when (b := s.nu.isSome) (et_test (ev_op (ev_fld (ev_var rfl) hR.1 T.cl_Translator T.na_Translator_numeral lk_n) ev_c rv_notN)) (fun hb H1 e1 => ?_) (fun hb H1 e1 => ?_)
    · obtain ⟨v, hv⟩ := Option.isSome_iff_exists.mp hb
      have hR1 := hR.ex e1
      have fn : Ev (tFld K (tVar 0) "numeral") (L2.start N_Translator_end_numeral [.ref x]) H1 (.int v) := by
        have := ev_fld (K := K) (ta := tVar 0) (σ := L2.start N_Translator_end_numeral [.ref x]) (ev_var rfl) hR1.1 T.cl_Translator T.na_Translator_numeral lk_n
        rw [hv] at this
        exact this
      refine q_dropP (ep_T (35, v) (ev_var rfl) hR1 (by omega) (by omega) (ea_cons ev_c (ea_cons fn ea_nil))) (fun u H2 h2 => ?_)
      obtain ⟨_, hR2, b2⟩ := h2
      refine s_fld ev_c (ev_var rfl) hR2.1 T.cl_Translator T.na_Translator_numeral ff_len (fun H3 e3 => ?_)
      have e : endN s = { emT s 35 v with nu := none } := by unfold endN; rw [hv]
      rw [show putF "numeral" V.non (FF (emT s 35 v) qi qp) = FF { (emT s 35 v) with nu := none } qi qp from pt_n (z := none)]
      dsimp only at k
      rw [e] at k
      exact k _ _ ⟨rfl, (hR2.ex e3).set _ rfl rfl, bu_x (((ex_bu e1).trans b2).trans (ex_bu e3))⟩
    · have e : endN s = s := by
        unfold endN
        cases h : s.nu with
        | none => rfl
        | some v => rw [h] at hb; cases hb
      dsimp only at k
      rw [e] at k
      exact k _ _ ⟨rfl, hR.ex e1, ex_bu e1⟩
def sp_Translator_take_skipped (K : PySem.W.Frag) (C : Addr) : Sp := fun vs H Q _ => ∃ (x dx qi qp : Addr) (s : TS) (w c : Int), vs = [.ref x, .int c] ∧ s.wa = some w ∧ RA C H x dx qi qp s ∧ s.im.length ≤ 60000 ∧ s.pl.length ≤ 60000 ∧ ∀ v H', Tr C x dx qi qp H (skT s w c) .non v H' → Q v H'
theorem ep_skipped {C x dx qi qp : Addr} {s : TS} {w c : Int} {σ : L2.St} {H : Hp} {to : TE} {t : TA} (ho : Ev to σ H (.ref x)) (hw : s.wa = some w) (hR : RA C H x dx qi qp s) (hz : s.im.length ≤ 60000) (hp : s.pl.length ≤ 60000) (ht : EvA t σ H [.int c]) : EvP (tMeth C "_take_skipped" (sp_Translator_take_skipped K C) [] E0 to t) σ H (Tr C x dx qi qp H (skT s w c) .non) :=
  ep_meth ho hR.1 (by rfl) ht fun H1 e1 Q k => ⟨x, dx, qi, qp, s, w, c, rfl, hw, hR.ex e1, hz, hp, fun v H' h => k v H' (tr_bk h (ex_bu e1))⟩
theorem ok_Translator_take_skipped (T : Txt K mg) : FnOk P w K mg base CX0 3 T.f_Translator_take_skipped T.d_Translator_take_skipped ["self", "code"] (sp_Translator_take_skipped K T.C_Translator) := by
  refine T.F_Translator_take_skipped.ok sc_Translator_take_skipped (fun vs H Q E h => ?_) (fun cdv A outer s H vs Q E hr h => ?_)
  · obtain ⟨x, dx, qi, qp, s, w, c, rfl, _⟩ := h
    rfl
  · obtain ⟨x, dx, qi, qp, s, w, c, rfl, hw, hR, hz, hp, k⟩ := h
    refine ⟨_, (pss_cons (ps_set (i := 2) sc_Translator_take_skipped.nd rfl (Or.inl rfl) (pe_fld (pv 0) rfl))
        (pss_cons (ps_fld (pv 0) pe_non rfl)
        (pss_one (ps_if (pt_cmpR op_eq (pv 2) (pe_glob (v := .int 58) (by rfl) T.c_COLON ⟨_, rfl⟩) (nomark _)) (pss_cons (ps_expr (pe_bm PySem.F.plainAttrs_list PySem.F.slot_list_append PySem.F.type_list_append mt_append (pe_fld (pv 0) rfl) (pa_cons (pe_fld (pv 0) rfl) pa_nil)))
        (pss_one (ps_fld (pv 0) (pv 1) rfl))) (pss_one (ps_if (pt_cmpR op_eq (pv 2) (pe_glob (v := .int 39) (by rfl) T.c_QUOTE ⟨_, rfl⟩) (nomark _)) (pss_one (ps_expr (pe_meth (pv 0) T.cl_Translator T.m_Translator_emit (ok_Translator_emit T) (hr.mono (by decide)) T.b_Translator_emit .nil pass0 (pa_cons (pe_glob (v := .int 35) (by rfl) T.c_PUSH ⟨_, rfl⟩) (pa_cons (pv 1) pa_nil))))) (pss_one (ps_expr (pe_meth (pv 0) T.cl_Translator T.m_Translator_emit (ok_Translator_emit T) (hr.mono (by decide)) T.b_Translator_emit .nil pass0 (pa_cons (pe_glob (v := .int 61) (by rfl) T.c_SET ⟨_, rfl⟩) (pa_cons (pv 1) pa_nil))))))))))), ?_⟩
    refine q_asg (v := .int w) (by
      have := ev_fld (K := K) (ta := tVar 0) (σ := L2.start N_Translator_take_skipped [.ref x, .int c]) (ev_var rfl) hR.1 T.cl_Translator T.na_Translator_waiting lk_w
      rw [hw] at this
      exact this) (fun H1 e1 => ?_)
    have hR1 := hR.ex e1
    refine q_fld ev_c (ev_var rfl) hR1.1 T.cl_Translator T.na_Translator_waiting ff_len (fun H2 e2 => ?_)
    rw [show putF "waiting" V.non (FF s qi qp) = FF { s with wa := none } qi qp from pt_w (z := none)]
    have hR2 := (hR1.ex e2).set { s with wa := none } rfl rfl
    have b2 : Bu [x, qi, qp] H (upd H2 x (.ins T.C_Translator dx (FF { s with wa := none } qi qp))) := bu_x (ex_bu (e1.trans e2))
    refine s_if (b := decide (w = 58)) (by walk_at "et") (fun hb H3 e3 => ?_) (fun hb H3 e3 => ?_)
    · have hR3 := hR2.ex e3
      refine q_app hR3.2.2.1 (ev_fld (ev_var rfl) hR3.1 T.cl_Translator T.na_Translator_pile lk_p) (ev_fld (ev_var rfl) hR3.1 T.cl_Translator T.na_Translator_m lk_m) (by rw [List.length_map]; show s.pl.length < 100000; omega) (fun H4 e4 => ?_)
      have e : ({ s with wa := none } : TS).pl.map V.int ++ [.int s.m] = (s.pl ++ [s.m]).map V.int := by rw [List.map_append]; rfl
      rw [e]
      have hR4 := (hR3.ex e4).pil (s.pl ++ [s.m])
      refine s_fld (ev_var rfl) (ev_var rfl) hR4.1 T.cl_Translator T.na_Translator_m ff_len (fun H5 e5 => ?_)
      rw [pt_m]
      have e : skT s w c = { s with wa := none, pl := s.pl ++ [s.m], m := c } := by unfold skT; rw [if_pos (of_decide_eq_true hb)]
      rw [e] at k
      exact k _ _ ⟨rfl, (hR4.ex e5).set _ rfl rfl, bu_x ((bu_p ((b2.trans (ex_bu e3)).trans (ex_bu e4))).trans (ex_bu e5))⟩
    have n58 := of_decide_eq_false hb
    refine s_if (b := decide (w = 39)) (by walk_at "et") (fun hb H4 e4 => ?_) (fun hb H4 e4 => ?_)
    · have e : skT s w c = emT { s with wa := none } 35 c := by unfold skT; rw [if_neg n58, if_pos (of_decide_eq_true hb)]
      rw [e] at k
      exact s_dropP (ep_T (35, c) (ev_var rfl) (hR2.ex (e3.trans e4)) (by show s.im.length ≤ 70000; omega) (by show s.pl.length ≤ 70000; omega) (ea_cons ev_c (ea_cons (ev_var rfl) ea_nil))) fun v H5 h => k _ _ ⟨rfl, h.2.1, (b2.trans (ex_bu (e3.trans e4))).trans h.2.2⟩
    · have e : skT s w c = emT { s with wa := none } 61 c := by unfold skT; rw [if_neg n58, if_neg (of_decide_eq_false hb)]
      rw [e] at k
      exact s_dropP (ep_T (61, c) (ev_var rfl) (hR2.ex (e3.trans e4)) (by show s.im.length ≤ 70000; omega) (by show s.pl.length ≤ 70000; omega) (ea_cons ev_c (ea_cons (ev_var rfl) ea_nil))) fun v H5 h => k _ _ ⟨rfl, h.2.1, (b2.trans (ex_bu (e3.trans e4))).trans h.2.2⟩
theorem in3 {c : Int} : inV (.int c) [.int 39, .int 61, .int 58] = decide (c = 39 ∨ c = 61 ∨ c = 58) := by
  show ((39 == c) || ((61 == c) || ((58 == c) || false))) = _
  by_cases h1 : c = 39
  · subst h1; rfl
  by_cases h2 : c = 61
  · subst h2; rfl
  by_cases h3 : c = 58
  · subst h3; rfl
  have b : ∀ {i j : Int}, ¬ j = i → (i == j) = false := fun h => by simpa using fun e => h (Eq.symm e)
  rw [b h1, b h2, b h3, decide_eq_false (by simp [h1, h2, h3])]
  rfl
def sp_Translator_take_sign (K : PySem.W.Frag) (C : Addr) : Sp := spT C 60000 (fun c : Int => [.int c]) (fun s c => sgT s c) (fun _ _ => .non)
theorem ok_Translator_take_sign (T : Txt K mg) : FnOk P w K mg base CX0 4 T.f_Translator_take_sign T.d_Translator_take_sign ["self", "code"] (sp_Translator_take_sign K T.C_Translator) := by
  refine T.F_Translator_take_sign.ok sc_Translator_take_sign (fun vs H Q E h => ?_) (fun cdv A outer s H vs Q E hr h => ?_)
  · obtain ⟨x, dx, qi, qp, s, a, rfl, _⟩ := h
    rfl
  · obtain ⟨x, dx, qi, qp, s, c, rfl, hR, hz, hp, k⟩ := h
    refine ⟨_, (pss_one (ps_if (pt_cmpR op_in_seq (pv 1) (pe_tup (pa_cons (pe_glob (v := .int 39) (by rfl) T.c_QUOTE ⟨_, rfl⟩) (pa_cons (pe_glob (v := .int 61) (by rfl) T.c_SET ⟨_, rfl⟩) (pa_cons (pe_glob (v := .int 58) (by rfl) T.c_COLON ⟨_, rfl⟩) pa_nil)))) (by rfl)) (pss_one (ps_fld (pv 0) (pv 1) rfl)) (pss_one (ps_if (pt_cmpR (op_in_it T.tab_BRACKETS) (pv 1) (pe_glob (v := .ref T.D_BRACKETS) (by rfl) T.g_BRACKETS rfl) (by rfl)) (pss_cons (ps_set (i := 2) sc_Translator_take_sign.nd rfl (Or.inl rfl) (pe_ix (ix_it T.tab_BRACKETS) (pe_glob (v := .ref T.D_BRACKETS) (by rfl) T.g_BRACKETS rfl) (pv 1) (fun _ _ => rfl)))
        (pss_one (ps_expr (pe_callA (i := 2) (held_BRACKETS T) (hr.mono (by decide)) rfl (by first | exact Or.inl rfl | exact Or.inr (Or.inl rfl)) (pa_cons (pv 0) pa_nil))))) (pss_one (ps_if (pt_cmpR op_gt (pv 1) (pe_glob (v := .int 32) (by rfl) T.c_SPACE ⟨_, rfl⟩) (nomark _)) (pss_one (ps_expr (pe_meth (pv 0) T.cl_Translator T.m_Translator_emit (ok_Translator_emit T) (hr.mono (by decide)) T.b_Translator_emit .nil pass0 (pa_cons (pv 1) (pa_cons pe_int pa_nil))))) pss_nil)))))), ?_⟩
    refine s_if (b := decide (c = 39 ∨ c = 61 ∨ c = 58)) (by rw [← in3]; exact et_test (ev_opU (ev_var rfl) (eu_tup (ea_cons ev_c (ea_cons ev_c (ea_cons ev_c ea_nil))) (by decide)) (fun p H1 h1 _ => rv_isT (st_of h1) rfl rfl))) (fun hb H1 e1 => ?_) (fun hb H1 e1 => ?_)
    · have hR1 := hR.ex e1
      refine s_fld (ev_var rfl) (ev_var rfl) hR1.1 T.cl_Translator T.na_Translator_waiting ff_len (fun H2 e2 => ?_)
      have e : sgT s c = { s with wa := some c } := by unfold sgT; rw [if_pos (of_decide_eq_true hb)]
      simp only [e] at k
      rw [show putF "waiting" (V.int c) (FF s qi qp) = FF { s with wa := some c } qi qp from pt_w (z := some c)]
      exact k _ _ ⟨rfl, (hR1.ex e2).set _ rfl rfl, bu_x (ex_bu (e1.trans e2))⟩
    have n3 := of_decide_eq_false hb
    cases hbr : brT c with
    | some f =>
      obtain ⟨a, ha, hs⟩ := br_some T hbr
      have e : sgT s c = f s := by unfold sgT; rw [if_neg n3, hbr]
      simp only [e] at k
      refine s_if (b := true) (et_is (et_test (ev_op (ev_var rfl) ev_c (rv_it ha))) rfl) (fun _ H2 e2 => ?_) (fun hb => nomatch hb)
      refine q_asg (v := .ref a) (ev_op ev_c (ev_var rfl) (rv_ix_it ha)) (fun H3 e3 => ?_)
      refine s_dropP (P := Tr T.C_Translator x dx qi qp H3 (f s) .non) (fun Q q => ⟨a, _, rfl, hs, (ea_cons (ev_var rfl) ea_nil) H3 (Ex.refl H3) _ fun H4 e4 => ⟨x, dx, qi, qp, s, (), rfl, hR.ex (e1.trans (e2.trans (e3.trans e4))), hz, hp, fun v H' h => q v H' (tr_bk h (ex_bu e4))⟩⟩) fun v H4 h => ?_
      exact k _ _ ⟨rfl, h.2.1, (ex_bu (e1.trans (e2.trans e3))).trans h.2.2⟩
    | none =>
      have ha := br_none T hbr
      refine s_if (b := false) (et_is (et_test (ev_op (ev_var rfl) ev_c (rv_it0 ha))) rfl) (fun hb => nomatch hb) (fun _ H2 e2 => ?_)
      refine s_when (b := decide (32 < c)) (et_test (ev_op (ev_var rfl) ev_c rv_I0)) (fun hb H3 e3 => ?_) (fun hb H3 e3 => ?_)
      · have e : sgT s c = emT s c 0 := by unfold sgT; rw [if_neg n3, hbr]; exact if_pos (of_decide_eq_true hb)
        simp only [e] at k
        exact s_dropP (ep_T (c, 0) (ev_var rfl) (hR.ex (e1.trans (e2.trans e3))) (by omega) (by omega) (ea_cons (ev_var rfl) (ea_cons ev_c ea_nil))) fun v H5 h => k _ _ ⟨rfl, h.2.1, (ex_bu (e1.trans (e2.trans e3))).trans h.2.2⟩
      · have e : sgT s c = s := by unfold sgT; rw [if_neg n3, hbr]; exact if_neg (of_decide_eq_false hb)
        simp only [e] at k
        exact k _ _ ⟨rfl, hR.ex (e1.trans (e2.trans e3)), ex_bu (e1.trans (e2.trans e3))⟩
theorem em_len (s : TS) (a b : Int) : (emT s a b).im.length = s.im.length + 4 ∧ (emT s a b).pl.length = s.pl.length := ⟨by show (s.im ++ [s.m, a, b, s.k]).length = _; rw [List.length_append]; rfl, rfl⟩
theorem endN_len (s : TS) : (endN s).im.length ≤ s.im.length + 4 ∧ (endN s).pl.length = s.pl.length ∧ (endN s).wa = s.wa ∧ (endN s).st = s.st ∧ (endN s).fi = s.fi := by
  unfold endN
  split
  · exact ⟨by omega, rfl, rfl, rfl, rfl⟩
  · rename_i v _
    have h := em_len s 35 v
    exact ⟨by show (emT s 35 v).im.length ≤ _; omega, rfl, rfl, rfl, rfl⟩
theorem sk_len (s : TS) (w c : Int) : (skT s w c).im.length ≤ s.im.length + 4 ∧ (skT s w c).pl.length ≤ s.pl.length + 1 ∧ (skT s w c).st = s.st ∧ (skT s w c).fi = s.fi ∧ (skT s w c).wa = none := by
  unfold skT
  split
  · exact ⟨by show s.im.length ≤ _; omega, by show (s.pl ++ [s.m]).length ≤ _; rw [List.length_append]; exact Nat.le_refl _, rfl, rfl, rfl⟩
  split
  · have h := em_len { s with wa := none } 35 c
    exact ⟨Nat.le_of_eq h.1, by rw [h.2]; exact Nat.le_succ _, rfl, rfl, rfl⟩
  · have h := em_len { s with wa := none } 61 c
    exact ⟨Nat.le_of_eq h.1, by rw [h.2]; exact Nat.le_succ _, rfl, rfl, rfl⟩
theorem br_len {c : Int} {f : TS → TS} (h : brT c = some f) (s : TS) : (f s).im.length = s.im.length + 4 ∧ (f s).pl.length ≤ s.pl.length + 1 ∧ (f s).st = s.st ∧ (f s).fi = s.fi ∧ (f s).wa = s.wa := by
  have hi : ∀ a b d : Int, (s.im ++ [s.m, a, b, d]).length = s.im.length + 4 := fun a b d => by rw [List.length_append]; rfl
  have h1 : ∀ z : Int, (s.pl ++ [z]).length ≤ s.pl.length + 1 := fun z => by rw [List.length_append]; exact Nat.le_refl _
  have h2 : s.pl.dropLast.length ≤ s.pl.length := by rw [List.length_dropLast]; omega
  have h3 : ∀ z : Int, (s.pl.dropLast ++ [z]).length ≤ s.pl.length + 1 := fun z => by rw [List.length_append]; show s.pl.dropLast.length + 1 ≤ _; omega
  unfold brT at h
  split at h
  · cases h; exact ⟨hi _ _ _, h1 _, rfl, rfl, rfl⟩
  split at h
  · cases h; exact ⟨hi _ _ _, h3 _, rfl, rfl, rfl⟩
  split at h
  · cases h; exact ⟨hi _ _ _, Nat.le_trans h2 (Nat.le_succ _), rfl, rfl, rfl⟩
  split at h
  · cases h; exact ⟨hi _ _ _, h1 _, rfl, rfl, rfl⟩
  split at h
  · cases h; exact ⟨hi _ _ _, Nat.le_trans h2 (Nat.le_succ _), rfl, rfl, rfl⟩
  split at h
  · cases h; exact ⟨hi _ _ _, Nat.le_trans h2 (Nat.le_succ _), rfl, rfl, rfl⟩
  · cases h
theorem sg_len (s : TS) (c : Int) : (sgT s c).im.length ≤ s.im.length + 4 ∧ (sgT s c).pl.length ≤ s.pl.length + 1 ∧ (sgT s c).st = s.st ∧ (sgT s c).fi = s.fi := by
  unfold sgT
  split
  · exact ⟨Nat.le_add_right _ _, Nat.le_succ _, rfl, rfl⟩
  split
  · rename_i f hf
    have h := br_len hf s
    exact ⟨by omega, h.2.1, h.2.2.1, h.2.2.2.1⟩
  split
  · have h := em_len s c 0
    exact ⟨by omega, by omega, rfl, rfl⟩
  · exact ⟨Nat.le_add_right _ _, Nat.le_succ _, rfl, rfl⟩
theorem take_len (s : TS) (c : Int) : (takeT s c).im.length ≤ s.im.length + 8 ∧ (takeT s c).pl.length ≤ s.pl.length + 1 ∧ (takeT s c).fi = s.fi := by
  unfold takeT
  split
  · exact ⟨by omega, by omega, rfl⟩
  split
  · exact ⟨Nat.le_add_right _ _, Nat.le_succ _, rfl⟩
  split
  · rename_i w _
    have h := sk_len s w c
    exact ⟨by omega, h.2.1, h.2.2.2.1⟩
  split
  · exact ⟨Nat.le_add_right _ _, Nat.le_succ _, rfl⟩
  · have h := endN_len s
    have g := sg_len (endN s) c
    exact ⟨by omega, by omega, g.2.2.2.trans h.2.2.2.2⟩
theorem run_len (l : List Int) (s : TS) : (l.foldl takeT s).im.length ≤ s.im.length + 8 * l.length ∧ (l.foldl takeT s).pl.length ≤ s.pl.length + l.length ∧ (l.foldl takeT s).fi = s.fi := by
  induction l generalizing s with
  | nil => exact ⟨Nat.le_refl _, Nat.le_refl _, rfl⟩
  | cons c r ih =>
    have h1 := ih (takeT s c)
    have h2 := take_len s c
    rw [List.foldl_cons, List.length_cons]
    exact ⟨by omega, by omega, h1.2.2.trans h2.2.2⟩
def sp_Translator_take (K : PySem.W.Frag) (C : Addr) : Sp := spT C 50000 (fun c : Int => [.int c]) (fun s c => takeT s c) (fun _ _ => .non)
theorem ok_Translator_take (T : Txt K mg) : FnOk P w K mg base CX0 5 T.f_Translator_take T.d_Translator_take ["self", "code"] (sp_Translator_take K T.C_Translator) := by
  refine T.F_Translator_take.ok sc_Translator_take (fun vs H Q E h => ?_) (fun cdv A outer s H vs Q E hr h => ?_)
  · obtain ⟨x, dx, qi, qp, s, a, rfl, _⟩ := h
    rfl
  · obtain ⟨x, dx, qi, qp, s, c, rfl, hR, hz, hp, k⟩ := h
    refine ⟨_, (pss_cons (ps_if (pt_val (pe_fld (pv 0) rfl)) (pss_one ps_retN) pss_nil)
        (pss_one (ps_if (pt_cmpR op_lt (pv 1) pe_int (nomark _)) (pss_one (ps_fld (pv 0) pe_bl rfl)) (pss_one (ps_if (pt_cmpR op_notN (pe_fld (pv 0) rfl) pe_non (nomark _)) (pss_one (ps_expr (pe_meth (pv 0) T.cl_Translator T.m_Translator_take_skipped (ok_Translator_take_skipped T) (hr.mono (by decide)) T.b_Translator_take_skipped .nil pass0 (pa_cons (pv 1) pa_nil)))) (pss_one (ps_if (pt_val (pe_call (ok_is_digit T) (hr.mono (by decide)) (by rfl) T.g_is_digit T.F_is_digit.kp T.b_is_digit .nil pass0 (pa_cons (pv 1) pa_nil))) (pss_one (ps_fld (pv 0) (pe_call (ok_with_digit T) (hr.mono (by decide)) (by rfl) T.g_with_digit T.F_with_digit.kp T.b_with_digit .nil pass0 (pa_cons (pe_orT (pe_fld (pv 0) rfl) (pe_one pe_int)) (pa_cons (pv 1) pa_nil))) rfl)) (pss_cons (ps_expr (pe_meth0 (pv 0) T.cl_Translator T.m_Translator_end_numeral (ok_Translator_end_numeral T) (hr.mono (by decide)) T.b_Translator_end_numeral .nil pass0))
        (pss_one (ps_expr (pe_meth (pv 0) T.cl_Translator T.m_Translator_take_sign (ok_Translator_take_sign T) (hr.mono (by decide)) T.b_Translator_take_sign .nil pass0 (pa_cons (pv 1) pa_nil)))))))))))), ?_⟩
    dsimp only at k
    refine q_when (b := s.st) (et_B (ev_fld (ev_var rfl) hR.1 T.cl_Translator T.na_Translator_stopped lk_s)) (fun hb H1 e1 => ?_) (fun hst H1 e1 => ?_)
    · have e : takeT s c = s := by unfold takeT; rw [if_pos hb]
      rw [e] at k
      exact k _ _ ⟨rfl, hR.ex e1, ex_bu e1⟩
    have nst : ¬ s.st = true := by rw [hst]; exact Bool.false_ne_true
    have hR1 := hR.ex e1
    refine s_if (b := decide (c < 0)) (by walk_at "et") (fun hb H2 e2 => ?_) (fun hb H2 e2 => ?_)
    · have e : takeT s c = { s with st := true } := by unfold takeT; rw [if_neg nst, if_pos (of_decide_eq_true hb)]
      rw [e] at k
      refine s_fld ev_c (ev_var rfl) (hR1.ex e2).1 T.cl_Translator T.na_Translator_stopped ff_len (fun H3 e3 => ?_)
      rw [pt_s]
      exact k _ _ ⟨rfl, ((hR1.ex e2).ex e3).set _ rfl rfl, bu_x (ex_bu (e1.trans (e2.trans e3)))⟩
    have n0 := of_decide_eq_false hb
    have hR2 := hR1.ex e2
    have e12 := e1.trans e2
    refine s_if (b := s.wa.isSome) (et_test (ev_op (ev_fld (ev_var rfl) hR2.1 T.cl_Translator T.na_Translator_waiting lk_w) ev_c rv_notN)) (fun hb H3 e3 => ?_) (fun hb H3 e3 => ?_)
    · obtain ⟨w, hw⟩ := Option.isSome_iff_exists.mp hb
      have e : takeT s c = skT s w c := by unfold takeT; rw [if_neg nst, if_neg n0, hw]
      rw [e] at k
      exact s_dropP (ep_skipped (ev_var rfl) hw (hR2.ex e3) (by omega) (by omega) (ea_cons (ev_var rfl) ea_nil)) fun v H4 h => k _ _ ⟨rfl, h.2.1, (ex_bu (e12.trans e3)).trans h.2.2⟩
    have hw : s.wa = none := by
      cases h : s.wa with
      | none => rfl
      | some w => rw [h] at hb; cases hb
    have hR3 := hR2.ex e3
    refine s_if (b := isDg c) (et_B (ev_call (ea_cons (ev_var rfl) ea_nil) v_is_digit)) (fun hd H4 e4 => ?_) (fun hd H4 e4 => ?_)
    · have e : takeT s c = { s with nu := some (10 * s.nu.getD 0 + c - 48) } := by unfold takeT; rw [if_neg nst, if_neg n0, hw]; exact if_pos hd
      rw [e] at k
      have hR4 := hR3.ex e4
      refine s_fld (ev_call (ea_cons (ev_or0 (ev_fld (ev_var rfl) hR4.1 T.cl_Translator T.na_Translator_numeral lk_n)) (ea_cons (ev_var rfl) ea_nil)) v_with_digit) (ev_var rfl) hR4.1 T.cl_Translator T.na_Translator_numeral ff_len (fun H5 e5 => ?_)
      rw [show putF "numeral" (V.int (10 * s.nu.getD 0 + c - 48)) (FF s qi qp) = FF { s with nu := some (10 * s.nu.getD 0 + c - 48) } qi qp from pt_n (z := some _)]
      exact k _ _ ⟨rfl, (hR4.ex e5).set _ rfl rfl, bu_x (ex_bu (e12.trans (e3.trans (e4.trans e5))))⟩
    · have e : takeT s c = sgT (endN s) c := by unfold takeT; rw [if_neg nst, if_neg n0, hw]; exact if_neg (by rw [hd]; exact Bool.false_ne_true)
      rw [e] at k
      have hl := endN_len s
      refine q_dropP (ep_T () (ev_var rfl) (hR3.ex e4) (by omega) (by omega) ea_nil) (fun v H5 h5 => ?_)
      exact s_dropP (ep_T c (ev_var rfl) h5.2.1 (by omega) (by omega) (ea_cons (ev_var rfl) ea_nil)) fun v H6 h => k _ _ ⟨rfl, h.2.1, ((ex_bu (e12.trans (e3.trans e4))).trans h5.2.2).trans h.2.2⟩
def sp_Translator_finish (K : PySem.W.Frag) (C : Addr) : Sp := fun vs H Q _ => ∃ (x dx qi qp : Addr) (s : TS), vs = [.ref x] ∧ RA C H x dx qi qp s ∧ s.im.length ≤ 50000 ∧ s.pl.length ≤ 50000 ∧ ∀ p H', H p = none → H' p = some (.lst ((finT s).im.map V.int)) → RA C H' x dx qi qp (finT s) → Bu [x, qi, qp] H H' → Q (.ref p) H'
theorem ep_finish {C x dx qi qp : Addr} {s : TS} {σ : L2.St} {H : Hp} {to : TE} (ho : Ev to σ H (.ref x)) (hR : RA C H x dx qi qp s) (hz : s.im.length ≤ 50000) (hp : s.pl.length ≤ 50000) : EvP (tMeth C "finish" (sp_Translator_finish K C) [] E0 to tNil) σ H (fun v H' => ∃ p, v = .ref p ∧ H p = none ∧ H' p = some (.lst ((finT s).im.map V.int)) ∧ RA C H' x dx qi qp (finT s) ∧ Bu [x, qi, qp] H H') :=
  ep_meth ho hR.1 (by rfl) ea_nil fun H1 e1 Q k => ⟨x, dx, qi, qp, s, rfl, hR.ex e1, hz, hp, fun p H' h1 h2 h3 h4 => k _ H' ⟨p, rfl, fresh_back e1 h1, h2, h3, (ex_bu e1).trans h4⟩⟩
theorem ok_Translator_finish (T : Txt K mg) : FnOk P w K mg base CX0 4 T.f_Translator_finish T.d_Translator_finish ["self"] (sp_Translator_finish K T.C_Translator) := by
  refine T.F_Translator_finish.ok sc_Translator_finish (fun vs H Q E h => ?_) (fun cdv A outer s H vs Q E hr h => ?_)
  · obtain ⟨x, dx, qi, qp, s, rfl, _⟩ := h
    rfl
  · obtain ⟨x, dx, qi, qp, s, rfl, hR, hz, hp, k⟩ := h
    refine ⟨_, (pss_cut (ps_if (pt_not (pt_val (pe_fld (pv 0) rfl))) (pss_cons (ps_expr (pe_meth0 (pv 0) T.cl_Translator T.m_Translator_end_numeral (ok_Translator_end_numeral T) (hr.mono (by decide)) T.b_Translator_end_numeral .nil pass0))
        (pss_cons (ps_expr (pe_meth (pv 0) T.cl_Translator T.m_Translator_emit (ok_Translator_emit T) (hr.mono (by decide)) T.b_Translator_emit .nil pass0 (pa_cons (pe_glob (v := .int 41) (by rfl) T.c_RETURN ⟨_, rfl⟩) (pa_cons pe_int pa_nil))))
        (pss_cons (ps_fld (pv 0) pe_non rfl)
        (pss_cons (ps_fld (pv 0) pe_bl rfl)
        (pss_one (ps_fld (pv 0) pe_bl rfl)))))) pss_nil)
        (pss_one (ps_ret (pe_callTy call_list_of (by rfl) T.n_list (by decide +kernel) (pa_cons (pe_fld (pv 0) rfl) pa_nil))))), ?_⟩
    refine q_cut (M := fun σ' H' => σ' = [some (.ref x)] ∧ RA T.C_Translator H' x dx qi qp (finT s) ∧ Bu [x, qi, qp] H H') ?_ ?_
    · refine s_when (b := !s.fi) (et_not (et_B (ev_fld (ev_var rfl) hR.1 T.cl_Translator T.na_Translator_finished lk_f))) (fun hb H1 e1 => ?_) (fun hb H1 e1 => ?_)
      · have hf : ¬ s.fi = true := by simpa using hb
        have e : finT s = { emT (endN s) 41 0 with wa := none, st := true, fi := true } := by unfold finT; rw [if_neg hf]
        have hl := endN_len s
        have hl2 := em_len (endN s) 41 0
        refine q_dropP (ep_T () (ev_var rfl) (hR.ex e1) (by omega) (by omega) ea_nil) (fun v H2 h2 => ?_)
        refine q_dropP (ep_T (41, 0) (ev_var rfl) h2.2.1 (by omega) (by omega) (ea_cons ev_c (ea_cons ev_c ea_nil))) (fun v H3 h3 => ?_)
        have hR3 := h3.2.1
        refine q_fld ev_c (ev_var rfl) hR3.1 T.cl_Translator T.na_Translator_waiting ff_len (fun H4 e4 => ?_)
        have hR4 := (hR3.ex e4).set { emT (endN s) 41 0 with wa := none } rfl rfl
        refine q_fld ev_c (ev_var rfl) hR4.1 T.cl_Translator T.na_Translator_stopped ff_len (fun H5 e5 => ?_)
        have hR5 := (hR4.ex e5).set { emT (endN s) 41 0 with wa := none, st := true } rfl rfl
        refine s_fld ev_c (ev_var rfl) hR5.1 T.cl_Translator T.na_Translator_finished ff_len (fun H6 e6 => ?_)
        refine ⟨rfl, ?_, ?_⟩
        · rw [e]
          exact (hR5.ex e6).set { emT (endN s) 41 0 with wa := none, st := true, fi := true } rfl rfl
        · exact bu_x ((bu_x ((bu_x ((((ex_bu e1).trans h2.2.2).trans h3.2.2).trans (ex_bu e4))).trans (ex_bu e5))).trans (ex_bu e6))
      · have hf : s.fi = true := by simpa using hb
        have e : finT s = s := by unfold finT; rw [if_pos hf]
        rw [e]
        exact ⟨rfl, hR.ex e1, ex_bu e1⟩
    · rintro σ' H1 ⟨rfl, hR1, b1⟩
      refine s_retL (el_list (ev_fld (ev_var rfl) hR1.1 T.cl_Translator T.na_Translator_image lk_i) (sq_of hR1.2.1)) (fun p H2 hp2 e2 h2 => k p H2 ?_ h2 (hR1.ex e2) (b1.trans (ex_bu e2)))
      cases h : H p with
      | none => rfl
      | some o =>
        by_cases m : p ∈ [x, qi, qp]
        · simp only [List.mem_cons, List.not_mem_nil, or_false] at m
          rcases m with rfl | rfl | rfl
          · rw [hR1.1] at hp2; cases hp2
          · rw [hR1.2.1] at hp2; cases hp2
          · rw [hR1.2.2.1] at hp2; cases hp2
        · rw [b1 _ _ m h] at hp2
          cases hp2
/-- a new translator -/
def NewT (C : Addr) (H : Hp) (f b : Int) : V → Hp → Prop := fun v H' => ∃ x dx qi qp, v = .ref x ∧ H x = none ∧ H qi = none ∧ H qp = none ∧ RA C H' x dx qi qp (t0 f b) ∧ Ex H H'
theorem ep_newT {C : Addr} {f b : Int} {gV : List V → List V → List V} {σ : L2.St} {H : Hp} {tk : TA} (hg : ∀ v : V, gV [v] [.int f, .int b] = [v, .int f, .int b]) (ht : EvA tk σ H [.int f, .int b]) : EvP (tMakeK C 0 2 (sp_Translator_init K C) gV E0 tNil tk) σ H (NewT C H f b) := fun Q q =>
  ht H (Ex.refl H) _ fun H2 e2 => ⟨rfl, rfl, fun x dx nx ndx ne => by
    rw [hg]
    refine ⟨x, dx, f, b, rfl, upd_same, fun qi qp H' h1 h2 hR kp => ⟨rfl, q _ H' ⟨x, dx, qi, qp, rfl, fresh_back e2 nx, fresh_back e2 ?_, fresh_back e2 ?_, hR, e2.trans ?_⟩⟩⟩
    · have n1 : qi ≠ x := fun e => by rw [e, upd_same] at h1; cases h1
      have n2 : qi ≠ dx := fun e => by rw [e, upd_ne ne, upd_same] at h1; cases h1
      rw [upd_ne n1, upd_ne n2] at h1
      exact h1
    · have n1 : qp ≠ x := fun e => by rw [e, upd_same] at h2; cases h2
      have n2 : qp ≠ dx := fun e => by rw [e, upd_ne ne, upd_same] at h2; cases h2
      rw [upd_ne n1, upd_ne n2] at h2
      exact h2
    · intro c o e
      exact kp c o (ne_of_none e nx) (by rw [upd_ne (ne_of_none e nx), upd_ne (ne_of_none e ndx)]; exact e)⟩
def imgT (ns : List Int) (first b : Int) : List Int := (finT (ns.foldl takeT (t0 first b))).im

theorem bs_Translator_init (T : Txt K mg) : ∃ ds, Vals [V.int 200, V.int 1] ds ∧ Binds K T.d_Translator_init ["self", "first", "by"] ds :=
  T.K_Translator_init.binds0 (ps := ["self", "first", "by"]) 1 (by simp) rfl fun D doc pm an cdv ct us ks l1 l2 => match us, ks, l1, l2 with
    | [_], [_, _], _, _ => ⟨_, _, _, _, _, _, rfl, rfl, _, _, _, _, _, _, rfl, rfl, rfl⟩
theorem ep_newT0 {C : Addr} {f b : Int} {σ : L2.St} {H : Hp} : EvP (tMake C (sp_Translator_init K C) [.int f, .int b] E0 tNil) σ H (NewT C H f b) := fun Q q => fun x dx nx ndx ne => by
  refine ⟨x, dx, f, b, rfl, upd_same, fun qi qp H' h1 h2 hR kp => ⟨rfl, q _ H' ⟨x, dx, qi, qp, rfl, nx, ?_, ?_, hR, ?_⟩⟩⟩
  · have n1 : qi ≠ x := fun e => by rw [e, upd_same] at h1; cases h1
    have n2 : qi ≠ dx := fun e => by rw [e, upd_ne ne, upd_same] at h1; cases h1
    rw [upd_ne n1, upd_ne n2] at h1
    exact h1
  · have n1 : qp ≠ x := fun e => by rw [e, upd_same] at h2; cases h2
    have n2 : qp ≠ dx := fun e => by rw [e, upd_ne ne, upd_same] at h2; cases h2
    rw [upd_ne n1, upd_ne n2] at h2
    exact h2
  · intro c o e
    exact kp c o (ne_of_none e nx) (by rw [upd_ne (ne_of_none e nx), upd_ne (ne_of_none e ndx)]; exact e)
/-! ### drawn programs -/
def sp_law_number (K : PySem.W.Frag) : Sp := fun vs H Q _ => ∃ c : Int, vs = [.int c] ∧ ∀ d : Int, RetV (.int (if c < 0 then 0 - c else c)) H Q
theorem v_law_number {c : Int} {H : Hp} : SpV (sp_law_number K) [.int c] H (.int (if c < 0 then 0 - c else c)) := fun _ _ _ q _ => ⟨c, rfl, fun _ => q⟩
theorem ok_law_number (T : Txt K mg) : FnOk P w K mg base CX0 1 T.f_law_number T.d_law_number ["_law_cell"] (sp_law_number K) := by
  refine T.F_law_number.ok sc_law_number (fun vs H Q E h => ?_) (fun cdv A outer s H vs Q E hr h => ?_)
  · obtain ⟨c, rfl, _⟩ := h
    rfl
  · obtain ⟨c, rfl, k⟩ := h
    refine ⟨_, (pss_cons (ps_if (pt_cmpR op_lt (pv 0) pe_int (nomark _)) (pss_one (ps_ret (pe_op op_sub pe_int (pv 0)))) pss_nil)
        (pss_one (ps_ret (pv 0)))), ?_⟩
    have k := k 0
    refine q_when (b := decide (c < 0)) (by walk_at "et") (fun hb H1 e1 => ?_) (fun hb H1 e1 => ?_)
    · rw [if_pos (of_decide_eq_true hb)] at k
      exact s_ret (by walk_at "ev") fun H2 e2 => k H2 (e1.trans e2)
    · rw [if_neg (of_decide_eq_false hb)] at k
      exact s_ret (ev_var rfl) fun H2 e2 => k H2 (e1.trans e2)
def sp_law_draws (K : PySem.W.Frag) : Sp := fun vs H Q _ => ∃ (a : Addr) (ns : List Int), vs = [.ref a] ∧ SqL K H a (ns.map V.int) ∧ ns.length ≤ 63 ∧ ∀ p H2, H p = none → Ex H H2 → Drw p H2 → Q (.ref p) H2
theorem ok_law_draws (T : Txt K mg) : FnOk P w K mg base CX0 2 T.f_law_draws T.d_law_draws ["_law_script"] (sp_law_draws K) := by
  refine T.F_law_draws.ok sc_law_draws (fun vs H Q E h => ?_) (fun cdv A outer s H vs Q E hr h => ?_)
  · obtain ⟨a, ns, rfl, _⟩ := h
    rfl
  · obtain ⟨a, ns, rfl, hS, hl, k⟩ := h
    refine ⟨_, (pss_cons (ps_set (i := 1) sc_law_draws.nd rfl (Or.inl rfl) (pe_lst pa_nil))
        (pss_cons (ps_for PassesOwn.never rfl (pi_list (pv 0)) (pg_name (i := 2) sc_law_draws.nd rfl (Or.inl rfl)) (pss_cons (ps_set (i := 3) sc_law_draws.nd rfl (Or.inl rfl) (pe_call (ok_law_number T) (hr.mono (by decide)) (by rfl) T.g_law_number T.F_law_number.kp T.b_law_number .nil pass0 (pa_cons (pv 2) pa_nil)))
        (pss_one (ps_if (pt_cmpR op_ge (pv 3) pe_int (nomark _)) (pss_one (ps_for PassesOwn.never rfl (pi_range1 (by rfl) T.n_range (pa_cons pe_int pa_nil)) (pg_name (i := 4) sc_law_draws.nd rfl (Or.inl rfl)) (pss_cons (ps_if (pt_cmpR op_eq (pv 3) pe_int (nomark _)) (pss_one ps_break) pss_nil)
        (pss_cons (ps_expr (pe_bm PySem.F.plainAttrs_list PySem.F.slot_list_append PySem.F.type_list_append mt_append (pv 1) (pa_cons (pe_op op_modN (pe_callTy call_int1 (by rfl) T.n_int (by decide +kernel) (pa_cons (pv 3) pa_nil)) pe_int) pa_nil)))
        (pss_one (ps_set (i := 3) sc_law_draws.nd rfl (Or.inl rfl) (pe_op op_fdivN (pv 3) pe_int))))))) (pss_cons (ps_set (i := 5) sc_law_draws.nd rfl (Or.inl rfl) (pe_op op_modN (pe_callTy call_int1 (by rfl) T.n_int (by decide +kernel) (pa_cons (pe_op op_add (pe_op op_mul (pv 3) pe_int) pe_int) pa_nil)) pe_int))
        (pss_cons (ps_set (i := 6) sc_law_draws.nd rfl (Or.inl rfl) (pe_op op_modN (pe_callTy call_int1 (by rfl) T.n_int (by decide +kernel) (pa_cons (pe_op op_add (pe_op op_mul (pv 5) pe_int) (pv 3)) pa_nil)) pe_int))
        (pss_one (ps_expr (pe_bm PySem.F.plainAttrs_list PySem.F.slot_list_extend PySem.F.type_list_extend mt_extend (pv 1) (pa_cons (pe_lst (pa_cons (pe_op op_modN (pe_callTy call_int1 (by rfl) T.n_int (by decide +kernel) (pa_cons (pv 3) pa_nil)) pe_int) (pa_cons (pe_op op_modN (pe_callTy call_int1 (by rfl) T.n_int (by decide +kernel) (pa_cons (pv 5) pa_nil)) pe_int) (pa_cons (pe_op op_modN (pe_callTy call_int1 (by rfl) T.n_int (by decide +kernel) (pa_cons (pv 6) pa_nil)) pe_int) pa_nil)))) pa_nil))))))))))
        (pss_one (ps_ret (pv 1))))), ?_⟩
    refine q_asgL (el_lst ea_nil (by decide)) (fun p H1 hp e1 d1 => ?_)
    have hS2 := ex_l e1 hS
    refine q_forLn (ev_var rfl) hS2 (fun i σ' H' => Ex H H' ∧ ∃ (ds : List Int) (y3 y4 y5 y6 y7 : Option V), H' p = some (.lst (ds.map V.int)) ∧ (∀ d ∈ ds, 0 ≤ d ∧ d < 1000) ∧ ds.length ≤ 60 * i ∧
      σ' = [some (.ref a), some (.ref p), y3, y4, y5, y6, y7]) ?_ ?_ ?_ ?_
    · intro H3 e3
      exact ⟨e1.trans e3, [], none, none, none, none, none, e3 _ _ d1, Small.nil.1, Nat.zero_le _, rfl⟩
    · rintro i σ' H' _ ⟨e3, _⟩
      exact ex_l e3 hS
    · rintro i x σ' H' hx ⟨e3, ds, y3, y4, y5, y6, y7, hd, hs, hlen, rfl⟩
      obtain ⟨c, hc, rfl⟩ := map_at hx
      have hi : i < 63 := by
        have := (List.getElem?_eq_some_iff.mp hc).1
        omega
      refine q_asg (ev_call (ea_cons (ev_var rfl) ea_nil) v_law_number) (fun H4 e4 => ?_)
      generalize (if c < 0 then 0 - c else c) = rest
      refine s_if (b := decide (1000000000000000000 ≤ rest)) (by walk_at "et") (fun hb H6 e6 => ?_) (fun hb H6 e6 => ?_)
      · refine s_forR1 (n := 60) (ea_cons ev_c ea_nil) (by decide) (fun j σ' H' => Ex H H' ∧ ∃ (es : List Int) (rs : Int) (y5 : Option V), H' p = some (.lst (es.map V.int)) ∧ (∀ d ∈ es, 0 ≤ d ∧ d < 1000) ∧ es.length ≤ 60 * i + j ∧
          σ' = [some (.ref a), some (.ref p), some (.int c), some (.int rs), y5, y6, y7]) ?_ ?_ ?_
        · intro H7 e7
          exact ⟨e3.trans (e4.trans (e6.trans e7)), ds, rest, y5, e7 _ _ (e6 _ _ (e4 _ _ hd)), hs, hlen, rfl⟩
        · rintro j σ' H' hj ⟨e7, es, rs, z5, he, hes, hel, rfl⟩
          refine q_when (b := decide (rs = 0)) (by walk_at "et") (fun hb H8 e8 => ?_) (fun hb H8 e8 => ?_)
          · exact ⟨e7.trans e8, es, _, _, _, _, _, e8 _ _ he, hes, by omega, rfl⟩
          · refine q_app (e8 _ _ he) (ev_var rfl) (ev_op (ev_cb (ea_cons (ev_var rfl) ea_nil) rc_int) ev_c (rv_mod (by decide))) (by rw [List.length_map]; omega) (fun H9 e9 => ?_)
            refine s_asg (ev_op (ev_var rfl) ev_c (rv_fdiv (by decide) (by decide))) (fun H10 e10 => ?_)
            refine ⟨((Ex.mut ((e7.trans e8).trans e9) hp).trans e10), es ++ [rs.fmod 1000], rs.fdiv 1000, some (.int (j : Int)), ?_, Small.one hes (fmod_in rs (by decide)), by rw [List.length_append]; simp; omega, rfl⟩
            rw [List.map_append]
            exact e10 _ _ upd_same
        · rintro σ' H' ⟨e7, es, rs, z5, he, hes, hel, rfl⟩
          exact ⟨e7, es, _, _, _, _, _, he, hes, by have : ((60 : Int).toNat) = 60 := rfl; omega, rfl⟩
      · refine q_asg (ev_op (ev_cb (ea_cons (ev_op (ev_op (ev_var rfl) ev_c (rv_mulR (by decide))) ev_c rv_I0) ea_nil) rc_int) ev_c (rv_mod (by decide))) (fun H7 e7 => ?_)
        refine q_asg (ev_op (ev_cb (ea_cons (ev_op (ev_op (ev_var rfl) ev_c (rv_mulR (by decide))) (ev_var rfl) rv_I0) ea_nil) rc_int) ev_c (rv_mod (by decide))) (fun H8 e8 => ?_)
        generalize (rest * 48271 + 11).fmod 2147483647 = once
        generalize (once * 69621 + rest).fmod 2147483629 = twice
        refine s_ext (xs := ds.map V.int) (e8 _ _ (e7 _ _ (e6 _ _ (e4 _ _ hd)))) (ev_var rfl) (el_lst (vs := [.int (rest.fmod 1000), .int (once.fmod 1000), .int (twice.fmod 1000)]) (ea_cons (ev_op (ev_cb (ea_cons (ev_var rfl) ea_nil) rc_int) ev_c (rv_mod (by decide))) (ea_cons (ev_op (ev_cb (ea_cons (ev_var rfl) ea_nil) rc_int) ev_c (rv_mod (by decide))) (ea_cons (ev_op (ev_cb (ea_cons (ev_var rfl) ea_nil) rc_int) ev_c (rv_mod (by decide))) ea_nil))) (by show 3 ≤ 100000; decide)) (by rw [List.length_map]; show ds.length + 3 ≤ 100000; omega) (fun H9 e9 => ?_)
        refine ⟨Ex.mut (e3.trans (e4.trans (e6.trans (e7.trans (e8.trans e9))))) hp, ds ++ [rest.fmod 1000, once.fmod 1000, twice.fmod 1000], _, _, _, _, _, ?_, Small.app hs ?_, ?_, rfl⟩
        · rw [List.map_append]
          exact upd_same
        · intro d hd'
          simp only [List.mem_cons, List.not_mem_nil, or_false] at hd'
          rcases hd' with rfl | rfl | rfl <;> exact fmod_in _ (by decide)
        · rw [List.length_append]
          show ds.length + 3 ≤ 60 * (i + 1)
          omega
    · rintro σ' H' ⟨e3, ds, y3, y4, y5, y6, y7, hd, hs, hlen, rfl⟩
      rw [List.length_map] at hlen
      exact s_ret (ev_var rfl) (fun H6 e6 => k p H6 hp (e3.trans e6) ⟨ds, e6 _ _ hd, hs, by omega⟩)
def sp_law_next (K : PySem.W.Frag) : Sp := fun vs H Q _ => ∃ p : Addr, vs = [.ref p] ∧ Drw p H ∧ ∀ v H', DP p H (fun d => 0 ≤ d ∧ d < 1000) v H' → Q v H'
theorem ok_law_next (T : Txt K mg) : FnOk P w K mg base CX0 1 T.f_law_next T.d_law_next ["_law_draws_here"] (sp_law_next K) := by
  refine T.F_law_next.ok sc_law_next (fun vs H Q E h => ?_) (fun cdv A outer s H vs Q E hr h => ?_)
  · obtain ⟨p, rfl, _⟩ := h
    rfl
  · obtain ⟨p, rfl, hD, k⟩ := h
    refine ⟨_, (pss_cons (ps_if (pt_truth (pv 0) (by intro _; rfl)) (pss_one (ps_ret (pe_bm0 PySem.F.plainAttrs_list PySem.F.slot_list_pop PySem.F.type_list_pop mt_pop (pv 0)))) pss_nil)
        (pss_one (ps_ret pe_int))), ?_⟩
    obtain ⟨ds, hd, hs, hlen⟩ := hD
    refine q_when (et_truL (K := K) (ev_var rfl) (sq_of hd)) (fun hb H1 e1 => ?_) (fun hb H1 e1 => ?_)
    · have hne : ds ≠ [] := by intro z; subst z; cases hb
      obtain ⟨es, d, rfl⟩ : ∃ es d, ds = es ++ [d] := ⟨ds.dropLast, ds.getLast hne, (List.dropLast_concat_getLast hne).symm⟩
      have hm : (es ++ [d]).map V.int = es.map V.int ++ [.int d] := by rw [List.map_append]; rfl
      rw [hm] at hd
      refine ⟨_, rfl, .inl ⟨rfl, _, sq_of (e1 _ _ hd)⟩, p, es.map V.int ++ [.int d], .int d, rfl, rfl, e1 _ _ hd, ?_, ?_⟩
      · rw [List.length_append]
        simp
      · have hd2 := hs d (List.mem_append_right _ (List.mem_singleton.mpr rfl))
        refine k _ _ ⟨d, rfl, hd2, ⟨es, ?_, fun x hx => hs x (List.mem_append_left _ hx), ?_⟩, but_mut (ex_but e1) rfl⟩
        · rw [List.dropLast_concat]
          exact upd_same
        · rw [List.length_append] at hlen
          omega
    · exact s_ret ev_c fun H2 e2 => k _ H2 ⟨0, rfl, by decide, ⟨ds, e2 _ _ (e1 _ _ hd), hs, hlen⟩, ex_but (e1.trans e2)⟩
theorem ep_next {p : Addr} {i : Nat} {σ : L2.St} {H : Hp} (hi : σ[i]? = some (some (.ref p))) (hD : Drw p H) : EvP (tCall (sp_law_next K) [] E0 (tCons (tVar i) tNil)) σ H (DP p H fun d => 0 ≤ d ∧ d < 1000) := fun Q q => ⟨_, hi, p, rfl, hD, q⟩
def often : List Int := [91, 93, 124, 123, 125, 58, 59, 61, 39, 48, 57, 32, 46, 43, 97, 70, 63, 41, 35, 10]
def sp_law_sign (K : PySem.W.Frag) : Sp := fun vs H Q _ => ∃ d : Int, vs = [.int d] ∧ ∀ (c : Int) H', Ex H H' → Q (.int c) H'
theorem ok_law_sign (T : Txt K mg) : FnOk P w K mg base CX0 1 T.f_law_sign T.d_law_sign ["_law_draw"] (sp_law_sign K) := by
  refine T.F_law_sign.ok sc_law_sign (fun vs H Q E h => ?_) (fun cdv A outer s H vs Q E hr h => ?_)
  · obtain ⟨d, rfl, _⟩ := h
    rfl
  · obtain ⟨d, rfl, k⟩ := h
    refine ⟨_, (pss_cons (ps_set (i := 1) sc_law_sign.nd rfl (Or.inl rfl) (pe_lst (pa_cons pe_int (pa_cons pe_int (pa_cons pe_int (pa_cons pe_int (pa_cons pe_int (pa_cons pe_int (pa_cons pe_int (pa_cons pe_int (pa_cons pe_int (pa_cons pe_int (pa_cons pe_int (pa_cons pe_int (pa_cons pe_int (pa_cons pe_int (pa_cons pe_int (pa_cons pe_int (pa_cons pe_int (pa_cons pe_int (pa_cons pe_int (pa_cons pe_int pa_nil))))))))))))))))))))))
        (pss_cons (ps_if (pt_cmpR op_lt (pv 0) pe_int (nomark _)) (pss_one (ps_ret (pe_ix ix_list (pv 1) (pe_op op_modN (pe_callTy call_int1 (by rfl) T.n_int (by decide +kernel) (pa_cons (pv 0) pa_nil)) pe_int) (fun _ _ => rfl)))) pss_nil)
        (pss_cons (ps_if (pt_cmpR op_lt (pv 0) pe_int (nomark _)) (pss_one (ps_ret (pe_op op_modN (pe_callTy call_int1 (by rfl) T.n_int (by decide +kernel) (pa_cons (pv 0) pa_nil)) pe_int))) pss_nil)
        (pss_cons (ps_if (pt_cmpR op_lt (pv 0) pe_int (nomark _)) (pss_one (ps_ret (pe_op op_add pe_int (pe_op op_modN (pe_callTy call_int1 (by rfl) T.n_int (by decide +kernel) (pa_cons (pv 0) pa_nil)) pe_int)))) pss_nil)
        (pss_cons (ps_if (pt_cmpR op_lt (pv 0) pe_int (nomark _)) (pss_one (ps_ret (pe_op op_sub (pe_un un_neg pe_int) (pe_op op_modN (pe_callTy call_int1 (by rfl) T.n_int (by decide +kernel) (pa_cons (pv 0) pa_nil)) pe_int)))) pss_nil)
        (pss_one (ps_ret (pe_op op_add pe_int (pe_op op_mul pe_int (pe_callTy call_int1 (by rfl) T.n_int (by decide +kernel) (pa_cons (pv 0) pa_nil))))))))))), ?_⟩
    refine q_asgL (el_lst (vs := often.map V.int) (ea_cons ev_c (ea_cons ev_c (ea_cons ev_c (ea_cons ev_c (ea_cons ev_c (ea_cons ev_c (ea_cons ev_c (ea_cons ev_c (ea_cons ev_c (ea_cons ev_c (ea_cons ev_c (ea_cons ev_c (ea_cons ev_c (ea_cons ev_c (ea_cons ev_c (ea_cons ev_c (ea_cons ev_c (ea_cons ev_c (ea_cons ev_c (ea_cons ev_c ea_nil)))))))))))))))))))) (by show 20 ≤ 100000; decide)) (fun q H1 hq e1 d1 => ?_)
    have f20 := fmod_in d (m := 20) (by decide)
    refine q_when (b := decide (d < 600)) (by walk_at "et") (fun hb H2 e2 => ?_) (fun hb H2 e2 => ?_)
    · refine s_ret (v := .int (often.getD (d.fmod 20).toNat 0)) (ev_op (ev_var rfl) (ev_op (ev_cb (ea_cons (ev_var rfl) ea_nil) rc_int) ev_c (rv_mod (by decide))) (rv_ixL (sq_of (e2 _ _ d1)) (at_of (j := (d.fmod 20).toNat) (by omega) ?_))) fun H3 e3 => k _ H3 (e1.trans (e2.trans e3))
      have hlt : (d.fmod 20).toNat < often.length := by show _ < 20; omega
      rw [List.getElem?_map, List.getD_eq_getElem?_getD, List.getElem?_eq_getElem hlt]
      rfl
    refine q_when (b := decide (d < 900)) (by walk_at "et") (fun hb H3 e3 => ?_) (fun hb H3 e3 => ?_)
    · exact s_ret (ev_op (ev_cb (ea_cons (ev_var rfl) ea_nil) rc_int) ev_c (rv_mod (by decide))) fun H4 e4 => k _ H4 (e1.trans (e2.trans (e3.trans e4)))
    refine q_when (b := decide (d < 960)) (by walk_at "et") (fun hb H4 e4 => ?_) (fun hb H4 e4 => ?_)
    · exact s_ret (ev_op ev_c (ev_op (ev_cb (ea_cons (ev_var rfl) ea_nil) rc_int) ev_c (rv_mod (by decide))) rv_I0) fun H5 e5 => k _ H5 (e1.trans (e2.trans (e3.trans (e4.trans e5))))
    refine q_when (b := decide (d < 975)) (by walk_at "et") (fun hb H5 e5 => ?_) (fun hb H5 e5 => ?_)
    · exact s_ret (ev_op (ev_un ev_c ru_neg) (ev_op (ev_cb (ea_cons (ev_var rfl) ea_nil) rc_int) ev_c (rv_mod (by decide))) rv_I0) fun H6 e6 => k _ H6 (e1.trans (e2.trans (e3.trans (e4.trans (e5.trans e6)))))
    · exact s_ret (ev_op ev_c (ev_op ev_c (ev_cb (ea_cons (ev_var rfl) ea_nil) rc_int) (rv_mulL (by decide))) rv_I0) fun H6 e6 => k _ H6 (e1.trans (e2.trans (e3.trans (e4.trans (e5.trans e6)))))
/-- a new list of at most n ints; the draws have turned -/
def NewL (p : Addr) (H : Hp) (n : Nat) : V → Hp → Prop := fun v H' => ∃ (q : Addr) (cs : List Int), v = .ref q ∧ H q = none ∧ But p H H' ∧ Drw p H' ∧ H' q = some (.lst (cs.map V.int)) ∧ cs.length ≤ n
def sp_law_program (K : PySem.W.Frag) : Sp := fun vs H Q _ => ∃ (p : Addr) (m : Nat), vs = [.ref p, .int (m : Int)] ∧ Drw p H ∧ m ≤ 500 ∧ ∀ v H', NewL p H m v H' → Q v H'
theorem ep_program {p : Addr} {i m : Nat} {σ : L2.St} {H : Hp} (hi : σ[i]? = some (some (.ref p))) (hD : Drw p H) (hm : m ≤ 500) : EvP (tCall (sp_law_program K) [] E0 (tCons (tVar i) (tCons (tC (.int (m : Int))) tNil))) σ H (NewL p H m) := fun Q q => ⟨_, hi, p, m, rfl, hD, hm, q⟩
theorem ok_law_program (T : Txt K mg) : FnOk P w K mg base CX0 2 T.f_law_program T.d_law_program ["_law_draws_here", "_law_most"] (sp_law_program K) := by
  refine T.F_law_program.ok sc_law_program (fun vs H Q E h => ?_) (fun cdv A outer s H vs Q E hr h => ?_)
  · obtain ⟨p, m, rfl, _⟩ := h
    rfl
  · obtain ⟨p, m, rfl, hD1, hm, k⟩ := h
    refine ⟨_, (pss_cons (ps_set (i := 2) sc_law_program.nd rfl (Or.inl rfl) (pe_lst pa_nil))
        (pss_cut (ps_for PassesOwn.never rfl (pi_range1 (by rfl) T.n_range (pa_cons (pv 1) pa_nil)) (pg_name (i := 3) sc_law_program.nd rfl (Or.inl rfl)) (pss_cons (ps_if (pt_not (pt_truth (pv 0) (by intro _; rfl))) (pss_one ps_break) pss_nil)
        (pss_one (ps_expr (pe_bm PySem.F.plainAttrs_list PySem.F.slot_list_append PySem.F.type_list_append mt_append (pv 2) (pa_cons (pe_call (ok_law_sign T) (hr.mono (by decide)) (by rfl) T.g_law_sign T.F_law_sign.kp T.b_law_sign .nil pass0 (pa_cons (pe_call (ok_law_next T) (hr.mono (by decide)) (by rfl) T.g_law_next T.F_law_next.kp T.b_law_next .nil pass0 (pa_cons (pv 0) pa_nil)) pa_nil)) pa_nil))))))
        (pss_one (ps_ret (pv 2))))), ?_⟩
    refine q_asgL (el_lst ea_nil (by decide)) (fun q H2 hq e2 d2 => ?_)
    have hqp : q ≠ p := fun e => by
      obtain ⟨ds, h, _⟩ := hD1
      rw [e, h] at hq
      cases hq
    have hmut : ∀ {H3 : Hp} {o : HO}, But p H H3 → But p H (upd H3 q o) := fun b c u n e => by
      rw [upd_ne (ne_of_none e hq)]
      exact b _ _ n e
    refine q_cut (M := fun σ' H' => Drw p H' ∧ But p H H' ∧ ∃ (cs : List Int) (y : Option V), H' q = some (.lst (cs.map V.int)) ∧ cs.length ≤ m ∧ σ' = [some (.ref p), some (.int (m : Int)), some (.ref q), y]) ?_ ?_
    · refine s_forR1 (ea_cons (ev_var rfl) ea_nil) (by omega) (fun i σ' H' => Drw p H' ∧ But p H H' ∧ ∃ (cs : List Int) (y : Option V), H' q = some (.lst (cs.map V.int)) ∧ cs.length = i ∧ σ' = [some (.ref p), some (.int (m : Int)), some (.ref q), y]) ?_ ?_ ?_
      · intro H3 e3
        exact ⟨hD1.ex (e2.trans e3), ex_but (e2.trans e3), [], none, e3 _ _ d2, rfl, rfl⟩
      · rintro i σ' H' hi ⟨hD, bb, cs, y, hc, hcl, rfl⟩
        obtain ⟨ds, hd, hs, hlen⟩ := id hD
        refine q_when (b := !!(ds.map V.int).isEmpty) (et_not (et_truL (K := K) (ev_var rfl) (sq_of hd))) (fun hb H3 e3 => ?_) (fun hb H3 e3 => ?_)
        · exact ⟨hD.ex e3, bb.trans (ex_but e3), cs, some (.int (i : Int)), e3 _ _ hc, by omega, rfl⟩
        · refine s_appP (l := q) (xs := cs.map V.int) (P := fun v H' => ∃ c : Int, v = .int c ∧ Drw p H' ∧ But p H3 H') (ev_var rfl) (e3 _ _ hc) (by rw [List.length_map]; omega) (fun H4 e4 Q kq => ?_) (fun v H5 hv => ?_)
          · refine ep_next rfl (hD.ex (e3.trans e4)) _ fun v H5 hv => ?_
            obtain ⟨d, rfl, _, hD5, b5⟩ := hv
            exact ⟨d, rfl, fun c H6 e6 => kq _ H6 ⟨c, rfl, hD5.ex e6, ((ex_but e4).trans b5).trans (ex_but e6)⟩⟩
          · obtain ⟨c, rfl, hD5, b5⟩ := hv
            refine ⟨b5 _ _ hqp (e3 _ _ hc), ?_, hmut ((bb.trans (ex_but e3)).trans b5), cs ++ [c], some (.int (i : Int)), ?_, by rw [List.length_append, hcl]; rfl, rfl⟩
            · obtain ⟨ds, h, s⟩ := hD5
              exact ⟨ds, by rw [upd_ne (Ne.symm hqp)]; exact h, s⟩
            · rw [List.map_append]
              exact upd_same
      · rintro σ' H4 ⟨hD4, bb, cs, y, hc4, hcl, rfl⟩
        exact ⟨hD4, bb, cs, y, hc4, by omega, rfl⟩
    · rintro σ' H5 ⟨hD5, bb5, cs, y, hc5, hcl, rfl⟩
      exact s_ret (ev_var rfl) fun H6 e6 => k _ H6 ⟨q, cs, rfl, hq, bb5.trans (ex_but e6), hD5.ex e6, e6 _ _ hc5, hcl⟩

/-! ### the law's own translator -/
def xL : Option (V × V × V) → List (Key × V)
  | none => []
  | some (a, b, c) => [(.inr "numeral", a), (.inr "waiting", b), (.inr "over", c)]
def KVs (s : TS) (zi zp : Addr) : List (Key × V) := [(.inr "image", .ref zi), (.inr "m", .int s.m), (.inr "k", .int s.k), (.inr "by", .int s.b), (.inr "pile", .ref zp)] ++ xL s.ex
def DA (H : Hp) (d zi zp : Addr) (s : TS) : Prop := H d = some (.dK (KVs s zi zp)) ∧ H zi = some (.lst (s.im.map V.int)) ∧ H zp = some (.lst (s.pl.map V.int)) ∧ zi ≠ zp
section
variable {d zi zp : Addr} {H H' H1 : Hp} {s s' : TS}
theorem DA.ni (h : DA H d zi zp s) : zi ≠ d := ne_of h.2.1 h.1 (by intro z; cases z)
theorem DA.np (h : DA H d zi zp s) : zp ≠ d := ne_of h.2.2.1 h.1 (by intro z; cases z)
theorem DA.ex (h : DA H d zi zp s) (e : Ex H H') : DA H' d zi zp s := ⟨e _ _ h.1, e _ _ h.2.1, e _ _ h.2.2.1, h.2.2.2⟩
theorem DA.set (h : DA H d zi zp s) (s' : TS) (e1 : s'.im = s.im) (e2 : s'.pl = s.pl) : DA (upd H d (.dK (KVs s' zi zp))) d zi zp s' := ⟨upd_same, by rw [upd_ne h.ni, e1]; exact h.2.1, by rw [upd_ne h.np, e2]; exact h.2.2.1, h.2.2.2⟩
theorem DA.img (h : DA H d zi zp s) (l : List Int) : DA (upd H zi (.lst (l.map V.int))) d zi zp { s with im := l } := ⟨by rw [upd_ne (Ne.symm h.ni)]; exact h.1, upd_same, by rw [upd_ne (Ne.symm h.2.2.2)]; exact h.2.2.1, h.2.2.2⟩
theorem DA.pil (h : DA H d zi zp s) (l : List Int) : DA (upd H zp (.lst (l.map V.int))) d zi zp { s with pl := l } := ⟨by rw [upd_ne (Ne.symm h.np)]; exact h.1, by rw [upd_ne h.2.2.2]; exact h.2.1, upd_same, h.2.2.2⟩
theorem DA.re (h : DA H d zi zp s) (s' : TS) (e : KVs s' zi zp = KVs s zi zp) (e1 : s'.im = s.im) (e2 : s'.pl = s.pl) : DA H d zi zp s' := ⟨by rw [e]; exact h.1, by rw [e1]; exact h.2.1, by rw [e2]; exact h.2.2.1, h.2.2.2⟩
theorem db_d {o : HO} (b : Bu [d, zi, zp] H H') : Bu [d, zi, zp] H (upd H' d o) := b.upd (.inl (by simp))
theorem db_i {o : HO} (b : Bu [d, zi, zp] H H') : Bu [d, zi, zp] H (upd H' zi o) := b.upd (.inl (by simp))
theorem db_p {o : HO} (b : Bu [d, zi, zp] H H') : Bu [d, zi, zp] H (upd H' zp o) := b.upd (.inl (by simp))
end
theorem kv_len {H : Hp} {d : Addr} {s : TS} {zi zp : Addr} (h : DA H d zi zp s) : (KVs s zi zp).length < 1000 := by
  unfold KVs
  cases s.ex <;> simp [xL]
theorem kl_i {s : TS} {zi zp : Addr} : valV (KVs s zi zp) (.inr "image") = some (.ref zi) := rfl
theorem kl_m {s : TS} {zi zp : Addr} : valV (KVs s zi zp) (.inr "m") = some (.int s.m) := rfl
theorem kl_k {s : TS} {zi zp : Addr} : valV (KVs s zi zp) (.inr "k") = some (.int s.k) := rfl
theorem kl_b {s : TS} {zi zp : Addr} : valV (KVs s zi zp) (.inr "by") = some (.int s.b) := rfl
theorem kl_p {s : TS} {zi zp : Addr} : valV (KVs s zi zp) (.inr "pile") = some (.ref zp) := rfl
theorem kp_m {s : TS} {zi zp : Addr} {z : Int} : putK (KVs s zi zp) (.inr "m") (.int z) = KVs { s with m := z } zi zp := by
  cases s with
  | mk im m k pl nu wa b st fi ex => cases ex <;> rfl
theorem kp_k {s : TS} {zi zp : Addr} {z : Int} : putK (KVs s zi zp) (.inr "k") (.int z) = KVs { s with k := z } zi zp := by
  cases s with
  | mk im m k pl nu wa b st fi ex => cases ex <;> rfl
def Dt (d zi zp : Addr) (H : Hp) (s' : TS) (r : V) : V → Hp → Prop := fun v H' => v = r ∧ DA H' d zi zp s' ∧ Bu [d, zi, zp] H H'
theorem dt_bk {d zi zp : Addr} {H H1 H' : Hp} {s' : TS} {r v : V} (h : Dt d zi zp H1 s' r v H') (b : Bu [d, zi, zp] H H1) : Dt d zi zp H s' r v H' := ⟨h.1, h.2.1, b.trans h.2.2⟩
def spD {α : Type} (n : Nat) (arg : α → List V) (f : TS → α → TS) (r : TS → α → V) : Sp := fun vs H Q _ => ∃ (d zi zp : Addr) (s : TS) (a : α), vs = .ref d :: arg a ∧ DA H d zi zp s ∧ s.im.length ≤ n ∧ s.pl.length ≤ n ∧ ∀ v H', Dt d zi zp H (f s a) (r s a) v H' → Q v H'
theorem ep_D {α : Type} {d zi zp : Addr} {n : Nat} {arg : α → List V} {f : TS → α → TS} {r : TS → α → V} {s : TS} {σ : L2.St} {H : Hp} {t : TA} (a : α) (hA : DA H d zi zp s) (hz : s.im.length ≤ n) (hp : s.pl.length ≤ n) (ht : EvA t σ H (.ref d :: arg a)) : EvP (tCall (spD n arg f r) [] E0 t) σ H (Dt d zi zp H (f s a) (r s a)) :=
  ep_call ht fun H1 e1 Q k => ⟨d, zi, zp, s, a, by rw [List.append_nil], hA.ex e1, hz, hp, fun v H' h => k v H' (dt_bk h (ex_bu e1))⟩
def sp_law_pull (K : PySem.W.Frag) : Sp := fun vs H Q _ => ∃ (d zi zp : Addr) (s : TS), vs = [.ref zp] ∧ DA H d zi zp s ∧ ∀ v H', Dt d zi zp H (popT s) (.int (topT s)) v H' → Q v H'
theorem ep_pull {d zi zp : Addr} {s : TS} {σ : L2.St} {H : Hp} {t : TA} (hA : DA H d zi zp s) (ht : EvA t σ H [.ref zp]) : EvP (tCall (sp_law_pull K) [] E0 t) σ H (Dt d zi zp H (popT s) (.int (topT s))) :=
  ep_call ht fun H1 e1 Q k => ⟨d, zi, zp, s, rfl, hA.ex e1, fun v H' h => k v H' (dt_bk h (ex_bu e1))⟩
theorem ok_law_pull (T : Txt K mg) : FnOk P w K mg base CX0 1 T.f_law_pull T.d_law_pull ["_law_pile"] (sp_law_pull K) := by
  refine T.F_law_pull.ok sc_law_pull (fun vs H Q E h => ?_) (fun cdv A outer s H vs Q E hr h => ?_)
  · obtain ⟨d, zi, zp, s, rfl, _⟩ := h
    rfl
  · obtain ⟨d, zi, zp, s, rfl, hA, k⟩ := h
    refine ⟨_, (pss_cons (ps_if (pt_truth (pv 0) (by intro _; rfl)) (pss_one (ps_ret (pe_bm0 PySem.F.plainAttrs_list PySem.F.slot_list_pop PySem.F.type_list_pop mt_pop (pv 0)))) pss_nil)
        (pss_one (ps_ret pe_int))), ?_⟩
    refine q_when (et_truL (K := K) (ev_var rfl) (sq_of hA.2.2.1)) (fun hb H1 e1 => ?_) (fun hb H1 e1 => ?_)
    · have hne : s.pl ≠ [] := by intro z; rw [z] at hb; cases hb
      have hd : s.pl = s.pl.dropLast ++ [topT s] := by
        unfold topT
        rw [List.getLast?_eq_some_getLast hne]
        exact (List.dropLast_concat_getLast hne).symm
      have hA1 := hA.ex e1
      have hq := hA1.2.2.1
      rw [hd, List.map_append] at hq
      refine ⟨_, rfl, .inl ⟨rfl, _, sq_of hq⟩, zp, s.pl.dropLast.map V.int ++ [.int (topT s)], .int (topT s), rfl, rfl, hq, ?_, ?_⟩
      · rw [List.length_append]
        simp
      · refine k _ _ ⟨rfl, ?_, db_p (ex_bu e1)⟩
        rw [List.dropLast_concat]
        exact hA1.pil s.pl.dropLast
    · have he : s.pl = [] := by
        cases h : s.pl with
        | nil => rfl
        | cons c r => rw [h] at hb; cases hb
      have e0 : topT s = 0 := by unfold topT; rw [he]; rfl
      have e1' : popT s = s := by unfold popT; rw [he]; cases s; simp at he; subst he; rfl
      rw [e0, e1'] at k
      exact s_ret ev_c fun H2 e2 => k _ H2 ⟨rfl, hA.ex (e1.trans e2), ex_bu (e1.trans e2)⟩
def sp_law_emit (K : PySem.W.Frag) : Sp := spD 80000 (fun a : Int × Int => [.int a.1, .int a.2]) (fun s a => emT s a.1 a.2) (fun _ _ => .non)
theorem ok_law_emit (T : Txt K mg) : FnOk P w K mg base CX0 1 T.f_law_emit T.d_law_emit ["_law_state", "_law_op", "_law_arg"] (sp_law_emit K) := by
  refine T.F_law_emit.ok sc_law_emit (fun vs H Q E h => ?_) (fun cdv A outer s H vs Q E hr h => ?_)
  · obtain ⟨d, zi, zp, s, a, rfl, _⟩ := h
    rfl
  · obtain ⟨d, zi, zp, s, ⟨op, arg⟩, rfl, hA, hz, hp, k⟩ := h
    refine ⟨_, (pss_cons (ps_expr (pe_bm PySem.F.plainAttrs_list PySem.F.slot_list_extend PySem.F.type_list_extend mt_extend (pe_dget (hu_of hr) (pv 0) pe_str (fun _ _ => rfl)) (pa_cons (pe_lst (pa_cons (pe_dget (hu_of hr) (pv 0) pe_str (fun _ _ => rfl)) (pa_cons (pv 1) (pa_cons (pv 2) (pa_cons (pe_dget (hu_of hr) (pv 0) pe_str (fun _ _ => rfl)) pa_nil))))) pa_nil)))
        (pss_cons (ps_dput (hu_of hr) (pv 0) pe_str (pe_dget (hu_of hr) (pv 0) pe_str (fun _ _ => rfl)) rfl)
        (pss_one (ps_dput (hu_of hr) (pv 0) pe_str (pe_op op_add (pe_dget (hu_of hr) (pv 0) pe_str (fun _ _ => rfl)) (pe_dget (hu_of hr) (pv 0) pe_str (fun _ _ => rfl))) rfl)))), ?_⟩
    dsimp only at k
    refine q_ext hA.2.1 (ev_dget (ev_var rfl) ev_c hA.1 kl_i) (el_lst (vs := [.int s.m, .int op, .int arg, .int s.k]) (ea_cons (ev_dget (ev_var rfl) ev_c hA.1 kl_m) (ea_cons (ev_var rfl) (ea_cons (ev_var rfl) (ea_cons (ev_dget (ev_var rfl) ev_c hA.1 kl_k) ea_nil)))) (by show 4 ≤ 100000; decide)) (by rw [List.length_map]; show s.im.length + 4 ≤ 100000; omega) (fun H1 e1 => ?_)
    have e : s.im.map V.int ++ [.int s.m, .int op, .int arg, .int s.k] = (s.im ++ [s.m, op, arg, s.k]).map V.int := by rw [List.map_append]; rfl
    rw [e]
    have hA1 := (hA.ex e1).img (s.im ++ [s.m, op, arg, s.k])
    refine q_dput (k := .inr "m") (ev_dget (ev_var rfl) ev_c hA1.1 kl_k) (ev_var rfl) ev_c hA1.1 (kv_len hA1) (fun H2 e2 => ?_)
    rw [kp_m]
    have hA2 := (hA1.ex e2).set { s with im := s.im ++ [s.m, op, arg, s.k], m := s.k } rfl rfl
    refine s_dput (k := .inr "k") (ev_op (ev_dget (ev_var rfl) ev_c hA2.1 kl_k) (ev_dget (ev_var rfl) ev_c hA2.1 kl_b) rv_I0) (ev_var rfl) ev_c hA2.1 (kv_len hA2) (fun H3 e3 => ?_)
    rw [kp_k]
    exact k _ _ ⟨rfl, (hA2.ex e3).set (emT s op arg) rfl rfl, db_d ((db_d ((db_i (ex_bu e1)).trans (ex_bu e2))).trans (ex_bu e3))⟩
def sp_law_branch (K : PySem.W.Frag) : Sp := fun vs H Q _ => ∃ (d zi zp : Addr) (s : TS) (c : Int) (f : TS → TS), vs = [.ref d, .int c] ∧ DA H d zi zp s ∧ s.im.length ≤ 70000 ∧ s.pl.length ≤ 70000 ∧ c ≠ 59 ∧ brT c = some f ∧ ∀ v H', Dt d zi zp H (f s) .non v H' → Q v H'
theorem ep_branch {d zi zp : Addr} {s : TS} {c : Int} {f : TS → TS} {σ : L2.St} {H : Hp} {t : TA} (hA : DA H d zi zp s) (hz : s.im.length ≤ 70000) (hp : s.pl.length ≤ 70000) (h59 : c ≠ 59) (hf : brT c = some f) (ht : EvA t σ H [.ref d, .int c]) : EvP (tCall (sp_law_branch K) [] E0 t) σ H (Dt d zi zp H (f s) .non) :=
  ep_call ht fun H1 e1 Q k => ⟨d, zi, zp, s, c, f, rfl, hA.ex e1, hz, hp, h59, hf, fun v H' h => k v H' (dt_bk h (ex_bu e1))⟩
theorem ok_law_branch (T : Txt K mg) : FnOk P w K mg base CX0 2 T.f_law_branch T.d_law_branch ["_law_state", "_law_code_here"] (sp_law_branch K) := by
  refine T.F_law_branch.ok sc_law_branch (fun vs H Q E h => ?_) (fun cdv A outer s H vs Q E hr h => ?_)
  · obtain ⟨d, zi, zp, s, c, f, rfl, _⟩ := h
    rfl
  · obtain ⟨d, zi, zp, s, c, f, rfl, hA, hz, hp, h59, hf, k⟩ := h
    refine ⟨_, (pss_cons (ps_set (i := 2) sc_law_branch.nd rfl (Or.inl rfl) (pe_dget (hu_of hr) (pv 0) pe_str (fun _ _ => rfl)))
        (pss_cons (ps_set (i := 3) sc_law_branch.nd rfl (Or.inl rfl) (pe_dget (hu_of hr) (pv 0) pe_str (fun _ _ => rfl)))
        (pss_one (ps_if (pt_cmpR op_eq (pv 1) pe_int (nomark _)) (pss_cons (ps_expr (pe_bm PySem.F.plainAttrs_list PySem.F.slot_list_append PySem.F.type_list_append mt_append (pv 2) (pa_cons (pv 3) pa_nil)))
        (pss_cons (ps_dput (hu_of hr) (pv 0) pe_str (pe_op op_add (pv 3) (pe_dget (hu_of hr) (pv 0) pe_str (fun _ _ => rfl))) rfl)
        (pss_one (ps_expr (pe_call (ok_law_emit T) (hr.mono (by decide)) (by rfl) T.g_law_emit T.F_law_emit.kp T.b_law_emit .nil pass0 (pa_cons (pv 0) (pa_cons pe_int (pa_cons (pv 3) pa_nil)))))))) (pss_one (ps_if (pt_cmpR op_eq (pv 1) pe_int (nomark _)) (pss_cons (ps_set (i := 4) sc_law_branch.nd rfl (Or.inl rfl) (pe_call (ok_law_pull T) (hr.mono (by decide)) (by rfl) T.g_law_pull T.F_law_pull.kp T.b_law_pull .nil pass0 (pa_cons (pv 2) pa_nil)))
        (pss_cons (ps_expr (pe_bm PySem.F.plainAttrs_list PySem.F.slot_list_extend PySem.F.type_list_extend mt_extend (pe_dget (hu_of hr) (pv 0) pe_str (fun _ _ => rfl)) (pa_cons (pe_lst (pa_cons (pe_dget (hu_of hr) (pv 0) pe_str (fun _ _ => rfl)) (pa_cons pe_int (pa_cons pe_int (pa_cons (pv 4) pa_nil))))) pa_nil)))
        (pss_one (ps_dput (hu_of hr) (pv 0) pe_str (pv 4) rfl)))) (pss_one (ps_if (pt_cmpR op_eq (pv 1) pe_int (nomark _)) (pss_cons (ps_set (i := 5) sc_law_branch.nd rfl (Or.inl rfl) (pe_call (ok_law_pull T) (hr.mono (by decide)) (by rfl) T.g_law_pull T.F_law_pull.kp T.b_law_pull .nil pass0 (pa_cons (pv 2) pa_nil)))
        (pss_cons (ps_dput (hu_of hr) (pv 0) pe_str (pe_op op_add (pv 3) (pe_dget (hu_of hr) (pv 0) pe_str (fun _ _ => rfl))) rfl)
        (pss_cons (ps_expr (pe_bm PySem.F.plainAttrs_list PySem.F.slot_list_extend PySem.F.type_list_extend mt_extend (pe_dget (hu_of hr) (pv 0) pe_str (fun _ _ => rfl)) (pa_cons (pe_lst (pa_cons (pe_dget (hu_of hr) (pv 0) pe_str (fun _ _ => rfl)) (pa_cons pe_int (pa_cons (pv 3) (pa_cons (pv 5) pa_nil))))) pa_nil)))
        (pss_one (ps_dput (hu_of hr) (pv 0) pe_str (pv 3) rfl))))) (pss_cons (ps_dput (hu_of hr) (pv 0) pe_str (pe_op op_add (pv 3) (pe_dget (hu_of hr) (pv 0) pe_str (fun _ _ => rfl))) rfl)
        (pss_cons (ps_expr (pe_bm PySem.F.plainAttrs_list PySem.F.slot_list_extend PySem.F.type_list_extend mt_extend (pe_dget (hu_of hr) (pv 0) pe_str (fun _ _ => rfl)) (pa_cons (pe_lst (pa_cons (pe_dget (hu_of hr) (pv 0) pe_str (fun _ _ => rfl)) (pa_cons pe_int (pa_cons pe_int (pa_cons (pv 3) pa_nil))))) pa_nil)))
        (pss_cons (ps_dput (hu_of hr) (pv 0) pe_str (pv 3) rfl)
        (pss_cons (ps_if (pt_cmpR op_eq (pv 1) pe_int (nomark _)) (pss_one (ps_dput (hu_of hr) (pv 0) pe_str (pe_call (ok_law_pull T) (hr.mono (by decide)) (by rfl) T.g_law_pull T.F_law_pull.kp T.b_law_pull .nil pass0 (pa_cons (pv 2) pa_nil)) rfl)) pss_nil)
        (pss_one (ps_expr (pe_bm PySem.F.plainAttrs_list PySem.F.slot_list_append PySem.F.type_list_append mt_append (pv 2) (pa_cons (pv 3) pa_nil)))))))))))))))), ?_⟩
    refine q_asg (ev_dget (ev_var rfl) ev_c hA.1 kl_p) (fun H1 e1 => ?_)
    refine q_asg (ev_dget (ev_var rfl) ev_c (hA.ex e1).1 kl_k) (fun H2 e2 => ?_)
    have hA2 := hA.ex (e1.trans e2)
    have e12 := e1.trans e2
    have hk2 : ∀ {σ : L2.St} {H' : Hp} {s' : TS}, σ[0]? = some (some (.ref d)) → DA H' d zi zp s' → ∀ op a su : Int, ∀ {t1 t2 t3 : TE}, Ev t1 σ H' (.int op) → Ev t2 σ H' (.int a) → Ev t3 σ H' (.int su) → EvL (tLst (tCons (tDGet (tVar 0) (tC (.str "m"))) (tCons t1 (tCons t2 (tCons t3 tNil))))) σ H' [.int s'.m, .int op, .int a, .int su] := fun h0 hA' op a su _ _ _ h1 h2 h3 => el_lst (ea_cons (ev_dget (ev_var h0) ev_c hA'.1 kl_m) (ea_cons h1 (ea_cons h2 (ea_cons h3 ea_nil)))) (by show 4 ≤ 100000; decide)
    have hm4 : ∀ (l : List Int) (a b c e : Int), l.map V.int ++ [.int a, .int b, .int c, .int e] = (l ++ [a, b, c, e]).map V.int := fun l a b c e => by rw [List.map_append]; rfl
    have hm1 : ∀ (l : List Int) (a : Int), l.map V.int ++ [.int a] = (l ++ [a]).map V.int := fun l a => by rw [List.map_append]; rfl
    refine s_if (b := decide (c = 91)) (by walk_at "et") (fun hb H3 e3 => ?_) (fun hb H3 e3 => ?_)
    · have h91 : c = 91 := of_decide_eq_true hb
      have ef : f = b91 := by subst h91; unfold brT at hf; rw [if_pos rfl] at hf; cases hf; rfl
      subst ef
      have hA3 := hA2.ex e3
      refine q_app hA3.2.2.1 (ev_var rfl) (ev_var rfl) (by rw [List.length_map]; omega) (fun H4 e4 => ?_)
      rw [hm1]
      have hA4 := (hA3.ex e4).pil (s.pl ++ [s.k])
      refine q_dput (k := .inr "k") (ev_op (ev_var rfl) (ev_dget (ev_var rfl) ev_c hA4.1 kl_b) rv_I0) (ev_var rfl) ev_c hA4.1 (kv_len hA4) (fun H5 e5 => ?_)
      rw [kp_k]
      have hA5 := (hA4.ex e5).set { s with k := s.k + s.b, pl := s.pl ++ [s.k] } rfl rfl
      exact s_dropP (ep_D (63, s.k) hA5 (by show s.im.length ≤ 80000; omega) (by show (s.pl ++ [s.k]).length ≤ 80000; rw [List.length_append]; simp; omega) (ea_cons (ev_var rfl) (ea_cons ev_c (ea_cons (ev_var rfl) ea_nil)))) fun v H6 h => k _ _ ⟨rfl, h.2.1, (db_d ((db_p (ex_bu (e12.trans (e3.trans e4)))).trans (ex_bu e5))).trans h.2.2⟩
    have n91 := of_decide_eq_false hb
    refine s_if (b := decide (c = 93)) (by walk_at "et") (fun hb H4 e4 => ?_) (fun hb H4 e4 => ?_)
    · have h93 : c = 93 := of_decide_eq_true hb
      have ef : f = b93 := by subst h93; unfold brT at hf; rw [if_neg (by decide), if_neg (by decide), if_pos rfl] at hf; cases hf; rfl
      subst ef
      refine q_asgP (ep_pull (hA2.ex (e3.trans e4)) (ea_cons (ev_var rfl) ea_nil)) (fun v H5 h5 => ?_)
      obtain ⟨rfl, hA5, b5⟩ := h5
      refine q_ext hA5.2.1 (ev_dget (ev_var rfl) ev_c hA5.1 kl_i) (hk2 rfl hA5 32 0 (topT s) ev_c ev_c (ev_var rfl)) (by rw [List.length_map]; show s.im.length + 4 ≤ 100000; omega) (fun H6 e6 => ?_)
      rw [hm4]
      have hA6 := (hA5.ex e6).img (s.im ++ [s.m, 32, 0, topT s])
      refine s_dput (k := .inr "m") (ev_var rfl) (ev_var rfl) ev_c hA6.1 (kv_len hA6) (fun H7 e7 => ?_)
      rw [kp_m]
      exact k _ _ ⟨rfl, (hA6.ex e7).set (b93 s) rfl rfl, db_d ((db_i (((ex_bu (e12.trans (e3.trans e4))).trans b5).trans (ex_bu e6))).trans (ex_bu e7))⟩
    have n93 := of_decide_eq_false hb
    refine s_if (b := decide (c = 125)) (by walk_at "et") (fun hb H5 e5 => ?_) (fun hb H5 e5 => ?_)
    · have h125 : c = 125 := of_decide_eq_true hb
      have ef : f = b125 := by subst h125; unfold brT at hf; rw [if_neg (by decide), if_neg (by decide), if_neg (by decide), if_neg (by decide), if_pos rfl] at hf; cases hf; rfl
      subst ef
      refine q_asgP (ep_pull (hA2.ex (e3.trans (e4.trans e5))) (ea_cons (ev_var rfl) ea_nil)) (fun v H6 h6 => ?_)
      obtain ⟨rfl, hA6, b6⟩ := h6
      refine q_dput (k := .inr "k") (ev_op (ev_var rfl) (ev_dget (ev_var rfl) ev_c hA6.1 kl_b) rv_I0) (ev_var rfl) ev_c hA6.1 (kv_len hA6) (fun H7 e7 => ?_)
      rw [kp_k]
      have hA7 := (hA6.ex e7).set { (popT s) with k := s.k + s.b } rfl rfl
      refine q_ext hA7.2.1 (ev_dget (ev_var rfl) ev_c hA7.1 kl_i) (hk2 rfl hA7 63 s.k (topT s) ev_c (ev_var rfl) (ev_var rfl)) (by rw [List.length_map]; show s.im.length + 4 ≤ 100000; omega) (fun H8 e8 => ?_)
      rw [hm4]
      have hA8 := (hA7.ex e8).img (s.im ++ [s.m, 63, s.k, topT s])
      refine s_dput (k := .inr "m") (ev_var rfl) (ev_var rfl) ev_c hA8.1 (kv_len hA8) (fun H9 e9 => ?_)
      rw [kp_m]
      exact k _ _ ⟨rfl, (hA8.ex e9).set (b125 s) rfl rfl, db_d ((db_i ((db_d (((ex_bu (e12.trans (e3.trans (e4.trans e5)))).trans b6).trans (ex_bu e7))).trans (ex_bu e8))).trans (ex_bu e9))⟩
    have n125 := of_decide_eq_false hb
    have hc : c = 124 ∧ f = b124 ∨ c = 123 ∧ f = b123 := by
      unfold brT at hf
      by_cases h4 : c = 124
      · rw [if_neg n91, if_pos h4] at hf
        cases hf
        exact .inl ⟨h4, rfl⟩
      by_cases h3 : c = 123
      · rw [if_neg n91, if_neg h4, if_neg n93, if_pos h3] at hf
        cases hf
        exact .inr ⟨h3, rfl⟩
      rw [if_neg n91, if_neg h4, if_neg n93, if_neg h3, if_neg n125, if_neg h59] at hf
      cases hf
    have hA5 := hA2.ex (e3.trans (e4.trans e5))
    have e15 := e12.trans (e3.trans (e4.trans e5))
    refine q_dput (k := .inr "k") (ev_op (ev_var rfl) (ev_dget (ev_var rfl) ev_c hA5.1 kl_b) rv_I0) (ev_var rfl) ev_c hA5.1 (kv_len hA5) (fun H6 e6 => ?_)
    rw [kp_k]
    have hA6 := (hA5.ex e6).set { s with k := s.k + s.b } rfl rfl
    refine q_ext hA6.2.1 (ev_dget (ev_var rfl) ev_c hA6.1 kl_i) (hk2 rfl hA6 32 0 s.k ev_c ev_c (ev_var rfl)) (by rw [List.length_map]; show s.im.length + 4 ≤ 100000; omega) (fun H7 e7 => ?_)
    rw [hm4]
    have hA7 := (hA6.ex e7).img (s.im ++ [s.m, 32, 0, s.k])
    refine q_dput (k := .inr "m") (ev_var rfl) (ev_var rfl) ev_c hA7.1 (kv_len hA7) (fun H8 e8 => ?_)
    rw [kp_m]
    have hA8 := (hA7.ex e8).set { s with im := s.im ++ [s.m, 32, 0, s.k], k := s.k + s.b, m := s.k } rfl rfl
    have B8 := db_d ((db_i ((db_d ((ex_bu (L := [d, zi, zp]) e15).trans (ex_bu e6)) (o := .dK (KVs { s with k := s.k + s.b } zi zp))).trans (ex_bu e7)) (o := .lst ((s.im ++ [s.m, 32, 0, s.k]).map V.int))).trans (ex_bu e8)) (o := .dK (KVs { s with im := s.im ++ [s.m, 32, 0, s.k], k := s.k + s.b, m := s.k } zi zp))
    rcases hc with ⟨rfl, rfl⟩ | ⟨rfl, rfl⟩
    · refine q_when (b := true) (et_is (et_test (ev_op (ev_var rfl) ev_c rv_eqI)) rfl) (fun _ H9 e9 => ?_) (fun hb => nomatch hb)
      refine s_dputP (k := .inr "m") (ep_pull (hA8.ex e9) (ea_cons (ev_var rfl) ea_nil)) (fun v H10 h10 => ⟨_, h10.2.1.1, fun _ _ => ev_var rfl, fun _ _ => ev_c, kv_len h10.2.1, fun H11 e11 => ?_⟩)
      obtain ⟨rfl, hA10, b10⟩ := h10
      rw [kp_m]
      have hA11 := (hA10.ex e11).set { s with im := s.im ++ [s.m, 32, 0, s.k], k := s.k + s.b, m := topT s, pl := s.pl.dropLast } rfl rfl
      refine s_app hA11.2.2.1 (ev_var rfl) (ev_var rfl) (by rw [List.length_map]; show s.pl.dropLast.length < 100000; rw [List.length_dropLast]; omega) (fun H12 e12' => ?_)
      rw [hm1]
      exact k _ _ ⟨rfl, (hA11.ex e12').pil (s.pl.dropLast ++ [s.k]), db_p ((db_d (((B8.trans (ex_bu e9)).trans b10).trans (ex_bu e11))).trans (ex_bu e12'))⟩
    · refine q_when (b := false) (et_is (et_test (ev_op (ev_var rfl) ev_c rv_eqI)) rfl) (fun hb => nomatch hb) (fun _ H9 e9 => ?_)
      refine s_app (hA8.ex e9).2.2.1 (ev_var rfl) (ev_var rfl) (by rw [List.length_map]; show s.pl.length < 100000; omega) (fun H10 e10 => ?_)
      rw [hm1]
      exact k _ _ ⟨rfl, ((hA8.ex e9).ex e10).pil (s.pl ++ [s.k]), db_p ((B8.trans (ex_bu e9)).trans (ex_bu e10))⟩
def paT (s : TS) (w c : Int) : TS := if w = 39 then emT s 35 c else if w = 61 then emT s 61 c else { s with pl := s.pl ++ [s.m], m := c }
def sp_law_pair (K : PySem.W.Frag) : Sp := spD 70000 (fun a : Int × Int => [.int a.1, .int a.2]) (fun s a => paT s a.1 a.2) (fun _ _ => .non)
theorem ok_law_pair (T : Txt K mg) : FnOk P w K mg base CX0 2 T.f_law_pair T.d_law_pair ["_law_state", "_law_sign_here", "_law_code_here"] (sp_law_pair K) := by
  refine T.F_law_pair.ok sc_law_pair (fun vs H Q E h => ?_) (fun cdv A outer s H vs Q E hr h => ?_)
  · obtain ⟨d, zi, zp, s, a, rfl, _⟩ := h
    rfl
  · obtain ⟨d, zi, zp, s, ⟨w, c⟩, rfl, hA, hz, hp, k⟩ := h
    refine ⟨_, (pss_one (ps_if (pt_cmpR op_eq (pv 1) pe_int (nomark _)) (pss_one (ps_expr (pe_call (ok_law_emit T) (hr.mono (by decide)) (by rfl) T.g_law_emit T.F_law_emit.kp T.b_law_emit .nil pass0 (pa_cons (pv 0) (pa_cons pe_int (pa_cons (pv 2) pa_nil)))))) (pss_one (ps_if (pt_cmpR op_eq (pv 1) pe_int (nomark _)) (pss_one (ps_expr (pe_call (ok_law_emit T) (hr.mono (by decide)) (by rfl) T.g_law_emit T.F_law_emit.kp T.b_law_emit .nil pass0 (pa_cons (pv 0) (pa_cons pe_int (pa_cons (pv 2) pa_nil)))))) (pss_cons (ps_expr (pe_bm PySem.F.plainAttrs_list PySem.F.slot_list_append PySem.F.type_list_append mt_append (pe_dget (hu_of hr) (pv 0) pe_str (fun _ _ => rfl)) (pa_cons (pe_dget (hu_of hr) (pv 0) pe_str (fun _ _ => rfl)) pa_nil)))
        (pss_one (ps_dput (hu_of hr) (pv 0) pe_str (pv 2) rfl))))))), ?_⟩
    dsimp only at k
    refine s_if (b := decide (w = 39)) (et_test (ev_op (ev_var rfl) ev_c rv_eqI)) (fun hb H1 e1 => ?_) (fun hb H1 e1 => ?_)
    · rw [show paT s w c = emT s 35 c from if_pos (of_decide_eq_true hb)] at k
      exact s_dropP (ep_D (35, c) (hA.ex e1) (by omega) (by omega) (ea_cons (ev_var rfl) (ea_cons ev_c (ea_cons (ev_var rfl) ea_nil)))) fun v H6 h => k _ _ ⟨rfl, h.2.1, (ex_bu e1).trans h.2.2⟩
    have n39 := of_decide_eq_false hb
    refine s_if (b := decide (w = 61)) (et_test (ev_op (ev_var rfl) ev_c rv_eqI)) (fun hb H2 e2 => ?_) (fun hb H2 e2 => ?_)
    · rw [show paT s w c = emT s 61 c from (if_neg n39).trans (if_pos (of_decide_eq_true hb))] at k
      exact s_dropP (ep_D (61, c) (hA.ex (e1.trans e2)) (by omega) (by omega) (ea_cons (ev_var rfl) (ea_cons ev_c (ea_cons (ev_var rfl) ea_nil)))) fun v H6 h => k _ _ ⟨rfl, h.2.1, (ex_bu (e1.trans e2)).trans h.2.2⟩
    · rw [show paT s w c = { s with pl := s.pl ++ [s.m], m := c } from (if_neg n39).trans (if_neg (of_decide_eq_false hb))] at k
      have hA2 := hA.ex (e1.trans e2)
      refine q_app hA2.2.2.1 (ev_dget (ev_var rfl) ev_c hA2.1 kl_p) (ev_dget (ev_var rfl) ev_c hA2.1 kl_m) (by rw [List.length_map]; omega) (fun H3 e3 => ?_)
      have e : s.pl.map V.int ++ [.int s.m] = (s.pl ++ [s.m]).map V.int := by rw [List.map_append]; rfl
      rw [e]
      have hA3 := (hA2.ex e3).pil (s.pl ++ [s.m])
      refine s_dput (k := .inr "m") (ev_var rfl) (ev_var rfl) ev_c hA3.1 (kv_len hA3) (fun H4 e4 => ?_)
      rw [kp_m]
      exact k _ _ ⟨rfl, (hA3.ex e4).set { s with pl := s.pl ++ [s.m], m := c } rfl rfl, db_d ((db_p (ex_bu (e1.trans (e2.trans e3)))).trans (ex_bu e4))⟩
def coT (s : TS) (c : Int) : TS := match brT c with
  | some f => f s
  | none => if 32 < c then emT s c 0 else s
theorem br_gt {c : Int} {f : TS → TS} (h : brT c = some f) : c = 59 ∨ (c = 91 ∨ c = 93 ∨ (123 ≤ c ∧ c ≤ 125)) := by
  unfold brT at h
  by_cases h1 : c = 91
  · exact .inr (.inl h1)
  by_cases h2 : c = 124
  · exact .inr (.inr (.inr (by omega)))
  by_cases h3 : c = 93
  · exact .inr (.inr (.inl h3))
  by_cases h4 : c = 123
  · exact .inr (.inr (.inr (by omega)))
  by_cases h5 : c = 125
  · exact .inr (.inr (.inr (by omega)))
  by_cases h6 : c = 59
  · exact .inl h6
  rw [if_neg h1, if_neg h2, if_neg h3, if_neg h4, if_neg h5, if_neg h6] at h
  cases h
theorem br_is {c : Int} (h : c = 91 ∨ c = 93 ∨ (123 ≤ c ∧ c ≤ 125)) : ∃ f, brT c = some f := by
  have hc : c = 91 ∨ c = 93 ∨ c = 123 ∨ c = 124 ∨ c = 125 := by omega
  rcases hc with rfl | rfl | rfl | rfl | rfl <;> exact ⟨_, rfl⟩
def sp_law_code (K : PySem.W.Frag) : Sp := spD 60000 (fun c : Int => [.int c]) (fun s c => coT s c) (fun _ _ => .non)
theorem ok_law_code (T : Txt K mg) : FnOk P w K mg base CX0 3 T.f_law_code T.d_law_code ["_law_state", "_law_code_here"] (sp_law_code K) := by
  refine T.F_law_code.ok sc_law_code (fun vs H Q E h => ?_) (fun cdv A outer s H vs Q E hr h => ?_)
  · obtain ⟨d, zi, zp, s, a, rfl, _⟩ := h
    rfl
  · obtain ⟨d, zi, zp, s, c, rfl, hA, hz, hp, k⟩ := h
    refine ⟨_, (pss_cons (ps_if (pt_cmpR op_le (pv 1) pe_int (nomark _)) (pss_one ps_retN) pss_nil)
        (pss_one (ps_if (pt_cmpR op_eq (pv 1) pe_int (nomark _)) (pss_cons (ps_expr (pe_bm PySem.F.plainAttrs_list PySem.F.slot_list_extend PySem.F.type_list_extend mt_extend (pe_dget (hu_of hr) (pv 0) pe_str (fun _ _ => rfl)) (pa_cons (pe_lst (pa_cons (pe_dget (hu_of hr) (pv 0) pe_str (fun _ _ => rfl)) (pa_cons pe_int (pa_cons pe_int (pa_cons pe_int pa_nil))))) pa_nil)))
        (pss_one (ps_dput (hu_of hr) (pv 0) pe_str (pe_call (ok_law_pull T) (hr.mono (by decide)) (by rfl) T.g_law_pull T.F_law_pull.kp T.b_law_pull .nil pass0 (pa_cons (pe_dget (hu_of hr) (pv 0) pe_str (fun _ _ => rfl)) pa_nil)) rfl))) (pss_one (ps_if (PW.pt (pw_or (pt_cmpR op_eq (pv 1) pe_int (nomark _)) (pw_or (pt_cmpR op_eq (pv 1) pe_int (nomark _)) (pw_or1 (pt_chain op_le op_le pe_int (pv 1) pe_int))))) (pss_one (ps_expr (pe_call (ok_law_branch T) (hr.mono (by decide)) (by rfl) T.g_law_branch T.F_law_branch.kp T.b_law_branch .nil pass0 (pa_cons (pv 0) (pa_cons (pv 1) pa_nil))))) (pss_one (ps_expr (pe_call (ok_law_emit T) (hr.mono (by decide)) (by rfl) T.g_law_emit T.F_law_emit.kp T.b_law_emit .nil pass0 (pa_cons (pv 0) (pa_cons (pv 1) (pa_cons pe_int pa_nil))))))))))), ?_⟩
    dsimp only at k
    refine q_when (b := decide (c ≤ 32)) (by walk_at "et") (fun hb H1 e1 => ?_) (fun hb H1 e1 => ?_)
    · have h32 : c ≤ 32 := of_decide_eq_true hb
      have e : coT s c = s := by
        unfold coT
        cases hf : brT c with
        | none => exact if_neg (by omega)
        | some f =>
          have := br_gt hf
          omega
      rw [e] at k
      exact k _ _ ⟨rfl, hA.ex e1, ex_bu e1⟩
    have h32 : 32 < c := by have := of_decide_eq_false hb; omega
    refine s_if (b := decide (c = 59)) (by walk_at "et") (fun hb H2 e2 => ?_) (fun hb H2 e2 => ?_)
    · have h59 : c = 59 := of_decide_eq_true hb
      have e : coT s c = b59 s := by subst h59; rfl
      rw [e] at k
      have hA2 := hA.ex (e1.trans e2)
      refine q_ext hA2.2.1 (ev_dget (ev_var rfl) ev_c hA2.1 kl_i) (el_lst (vs := [.int s.m, .int 41, .int 0, .int 1]) (ea_cons (ev_dget (ev_var rfl) ev_c hA2.1 kl_m) (ea_cons ev_c (ea_cons ev_c (ea_cons ev_c ea_nil)))) (by show 4 ≤ 100000; decide)) (by rw [List.length_map]; show s.im.length + 4 ≤ 100000; omega) (fun H3 e3 => ?_)
      have e : s.im.map V.int ++ [.int s.m, .int 41, .int 0, .int 1] = (s.im ++ [s.m, 41, 0, 1]).map V.int := by rw [List.map_append]; rfl
      rw [e]
      have hA3 := (hA2.ex e3).img (s.im ++ [s.m, 41, 0, 1])
      refine s_dputP (k := .inr "m") (ep_pull hA3 (ea_cons (ev_dget (ev_var rfl) ev_c hA3.1 kl_p) ea_nil)) (fun v H10 h10 => ⟨_, h10.2.1.1, fun _ _ => ev_var rfl, fun _ _ => ev_c, kv_len h10.2.1, fun H11 e11 => ?_⟩)
      obtain ⟨rfl, hA10, b10⟩ := h10
      rw [kp_m]
      exact k _ _ ⟨rfl, (hA10.ex e11).set (b59 s) rfl rfl, db_d (((db_i (ex_bu (e1.trans (e2.trans e3)))).trans b10).trans (ex_bu e11))⟩
    have n59 := of_decide_eq_false hb
    have hA2 := hA.ex (e1.trans e2)
    refine s_if (b := (decide (c = 91) || (decide (c = 93) || (decide (123 ≤ c) && decide (c ≤ 125))))) (et_or (et_test (ev_op (ev_var rfl) ev_c rv_eqI)) (fun _ => et_or (et_test (ev_op (ev_var rfl) ev_c rv_eqI)) (fun _ => et_test (ev_chain ev_c (ev_var rfl) rv_I0 (fun _ => ev_c) (fun _ => rv_I0))))) (fun hb H3 e3 => ?_) (fun hb H3 e3 => ?_)
    · simp only [Bool.or_eq_true, Bool.and_eq_true, decide_eq_true_eq] at hb
      obtain ⟨f, hf⟩ := br_is hb
      have e : coT s c = f s := by unfold coT; rw [hf]
      rw [e] at k
      exact s_dropP (ep_branch (hA2.ex e3) (by omega) (by omega) n59 hf (ea_cons (ev_var rfl) (ea_cons (ev_var rfl) ea_nil))) fun v H6 h => k _ _ ⟨rfl, h.2.1, (ex_bu (e1.trans (e2.trans e3))).trans h.2.2⟩
    · have e : coT s c = emT s c 0 := by
        unfold coT
        cases hf : brT c with
        | none => exact if_pos h32
        | some f =>
          rcases br_gt hf with h | h
          · exact absurd h n59
          · rw [show (decide (c = 91) || (decide (c = 93) || (decide (123 ≤ c) && decide (c ≤ 125)))) = true from by simp only [Bool.or_eq_true, Bool.and_eq_true, decide_eq_true_eq]; exact h] at hb
            cases hb
      rw [e] at k
      exact s_dropP (ep_D (c, 0) (hA2.ex e3) (by omega) (by omega) (ea_cons (ev_var rfl) (ea_cons (ev_var rfl) (ea_cons ev_c ea_nil)))) fun v H6 h => k _ _ ⟨rfl, h.2.1, (ex_bu (e1.trans (e2.trans e3))).trans h.2.2⟩
/-! ### both translators agree -/
def wOK (s : TS) : Prop := ∀ w, s.wa = some w → w = 39 ∨ w = 61 ∨ w = 58
theorem stopped (l : List Int) (s : TS) (h : s.st = true) : l.foldl takeT s = s := by
  induction l with
  | nil => rfl
  | cons c r ih => rw [List.foldl_cons, show takeT s c = s from if_pos h, ih]
theorem pa_sk {s : TS} {w c : Int} (hw : w = 39 ∨ w = 61 ∨ w = 58) : { paT s w c with wa := none } = skT s w c := by
  unfold paT skT
  rcases hw with rfl | rfl | rfl <;> rfl
theorem co_sg {s : TS} {c : Int} (h : ¬ (c = 39 ∨ c = 61 ∨ c = 58)) : sgT s c = coT s c := by
  unfold sgT coT
  rw [if_neg h]
theorem take_st {s : TS} {c : Int} (hs : s.st = false) (h0 : ¬ c < 0) : (takeT s c).st = false := by
  unfold takeT
  rw [if_neg (by rw [hs]; exact Bool.false_ne_true), if_neg h0]
  split
  · rename_i w _
    rw [(sk_len s w c).2.2.1, hs]
  split
  · exact hs
  · rw [(sg_len (endN s) c).2.2.1, (endN_len s).2.2.2.1, hs]
theorem take_wok {s : TS} {c : Int} (hs : s.st = false) (h0 : ¬ c < 0) (hw : wOK s) : wOK (takeT s c) := by
  unfold takeT
  rw [if_neg (by rw [hs]; exact Bool.false_ne_true), if_neg h0]
  split
  · rename_i w _
    intro v hv
    rw [(sk_len s w c).2.2.2.2] at hv
    cases hv
  split
  · exact hw
  · rename_i hn _
    unfold sgT
    split
    · intro v hv
      cases hv
      rename_i h
      rcases h with h | h | h
      · exact .inl h
      · exact .inr (.inl h)
      · exact .inr (.inr h)
    · have he : (endN s).wa = none := (endN_len s).2.2.1.trans hn
      split
      · rename_i f hf
        intro v hv
        rw [(br_len hf (endN s)).2.2.2.2, he] at hv
        cases hv
      split
      · intro v hv
        have : (emT (endN s) c 0).wa = (endN s).wa := rfl
        rw [this, he] at hv
        cases hv
      · intro v hv
        rw [he] at hv
        cases hv

theorem sk_nu (s : TS) (w c : Int) : (skT s w c).nu = s.nu := by
  unfold skT
  split
  · rfl
  split <;> rfl
theorem endN_nu (s : TS) : (endN s).nu = none := by
  unfold endN
  split
  · assumption
  · rfl
theorem br_nu {c : Int} {f : TS → TS} (h : brT c = some f) (s : TS) : (f s).nu = s.nu := by
  unfold brT at h
  repeat' split at h
  all_goals first
    | (cases h; rfl)
    | cases h
theorem co_nu (s : TS) (c : Int) : (coT s c).nu = s.nu ∧ (coT s c).wa = s.wa := by
  unfold coT
  split
  · rename_i f hf
    exact ⟨br_nu hf s, (br_len hf s).2.2.2.2⟩
  split <;> exact ⟨rfl, rfl⟩
def BegT (H : Hp) (f b : Int) : V → Hp → Prop := fun v H' => ∃ d zi zp, v = .ref d ∧ H d = none ∧ H zi = none ∧ H zp = none ∧ DA H' d zi zp (t0 f b) ∧ Ex H H'
theorem end_st (s : TS) : (emT (endN { s with st := true }) 41 0).im = (emT (endN s) 41 0).im := by
  cases s with
  | mk im m k pl nu wa b st fi ex => cases nu <;> rfl
def sp_law_translate (K : PySem.W.Frag) : Sp := fun vs H Q _ => ∃ (a : Addr) (ns : List Int) (f b : Int), vs = [.ref a, .int f, .int b] ∧ H a = some (.lst (ns.map V.int)) ∧ ns.length ≤ 1000 ∧ RetL ((imgT ns f b).map V.int) H Q
theorem l_law_translate {a : Addr} {ns : List Int} {f b : Int} {H : Hp} (h : H a = some (.lst (ns.map V.int))) (hl : ns.length ≤ 1000) : SpL (sp_law_translate K) [.ref a, .int f, .int b] H ((imgT ns f b).map V.int) := fun _ e _ q _ => ⟨a, ns, f, b, rfl, e _ _ h, hl, q⟩
theorem ok_law_translate (T : Txt K mg) : FnOk P w K mg base CX0 4 T.f_law_translate T.d_law_translate ["_law_codes", "_law_first", "_law_by"] (sp_law_translate K) := by
  refine T.F_law_translate.ok sc_law_translate (fun vs H Q E h => ?_) (fun cdv A outer s H vs Q E hr h => ?_)
  · obtain ⟨a, ns, f, b, rfl, _⟩ := h
    rfl
  · obtain ⟨a, ns, f, b, rfl, hA, hl, k⟩ := h
    refine ⟨_, (pss_cons (ps_set (i := 3) sc_law_translate.nd rfl (Or.inl rfl) (pe_disp (pps_cons pe_str (pe_lst (pa_cons pe_int (pa_cons pe_int (pa_cons pe_int (pa_cons (pv 1) pa_nil))))) (pps_cons pe_str (pv 1) (pps_cons pe_str (pe_op op_add (pv 1) (pv 2)) (pps_cons pe_str (pv 2) (pps_cons pe_str (pe_lst pa_nil) pps_nil))))) (by rfl) (by rfl) (fun z => by cases z) (by decide)))
        (pss_cons (ps_set (i := 4) sc_law_translate.nd rfl (Or.inl rfl) pe_non)
        (pss_cons (ps_set (i := 5) sc_law_translate.nd rfl (Or.inl rfl) pe_int)
        (pss_cut (ps_for PassesOwn.never rfl (pi_list (pv 0)) (pg_name (i := 6) sc_law_translate.nd rfl (Or.inl rfl)) (pss_cons (ps_if (pt_cmpR op_lt (pv 6) pe_int (nomark _)) (pss_one ps_break) pss_nil)
        (pss_one (ps_if (pt_cmpR op_ne (pv 5) pe_int (nomark _)) (pss_cons (ps_expr (pe_call (ok_law_pair T) (hr.mono (by decide)) (by rfl) T.g_law_pair T.F_law_pair.kp T.b_law_pair .nil pass0 (pa_cons (pv 3) (pa_cons (pv 5) (pa_cons (pv 6) pa_nil)))))
        (pss_one (ps_set (i := 5) sc_law_translate.nd rfl (Or.inl rfl) pe_int))) (pss_one (ps_if (pt_chain op_le op_le pe_int (pv 6) pe_int) (pss_cons (ps_if (pt_cmpR op_isN (pv 4) pe_non (nomark _)) (pss_one (ps_set (i := 4) sc_law_translate.nd rfl (Or.inl rfl) pe_int)) pss_nil)
        (pss_one (ps_set (i := 4) sc_law_translate.nd rfl (Or.inl rfl) (pe_op op_sub (pe_op op_add (pe_op op_mul pe_int (pv 4)) (pv 6)) pe_int)))) (pss_cut (ps_if (pt_cmpR op_notN (pv 4) pe_non (nomark _)) (pss_cons (ps_expr (pe_call (ok_law_emit T) (hr.mono (by decide)) (by rfl) T.g_law_emit T.F_law_emit.kp T.b_law_emit .nil pass0 (pa_cons (pv 3) (pa_cons pe_int (pa_cons (pv 4) pa_nil)))))
        (pss_one (ps_set (i := 4) sc_law_translate.nd rfl (Or.inl rfl) pe_non))) pss_nil)
        (pss_one (ps_if (PW.pt (pw_or (pt_cmpR op_eq (pv 6) pe_int (nomark _)) (pw_or (pt_cmpR op_eq (pv 6) pe_int (nomark _)) (pw_or1 (pt_cmpR op_eq (pv 6) pe_int (nomark _)))))) (pss_one (ps_set (i := 5) sc_law_translate.nd rfl (Or.inl rfl) (pv 6))) (pss_one (ps_expr (pe_call (ok_law_code T) (hr.mono (by decide)) (by rfl) T.g_law_code T.F_law_code.kp T.b_law_code .nil pass0 (pa_cons (pv 3) (pa_cons (pv 6) pa_nil))))))))))))))
        (pss_cut (ps_if (pt_cmpR op_notN (pv 4) pe_non (nomark _)) (pss_one (ps_expr (pe_call (ok_law_emit T) (hr.mono (by decide)) (by rfl) T.g_law_emit T.F_law_emit.kp T.b_law_emit .nil pass0 (pa_cons (pv 3) (pa_cons pe_int (pa_cons (pv 4) pa_nil)))))) pss_nil)
        (pss_cons (ps_expr (pe_call (ok_law_emit T) (hr.mono (by decide)) (by rfl) T.g_law_emit T.F_law_emit.kp T.b_law_emit .nil pass0 (pa_cons (pv 3) (pa_cons pe_int (pa_cons pe_int pa_nil)))))
        (pss_one (ps_ret (pe_dget (hu_of hr) (pv 3) pe_str (fun _ _ => rfl)))))))))), ?_⟩
    refine q_asgP (P := BegT H f b) (fun Q q => ?_) (fun v H1 hv => ?_)
    · intro d hd
      refine ⟨_, rfl, (by show 4 ≤ sizeLine; exact sz_of (by decide)), fun zi hzi => ⟨_, rfl, _, rfl, _, rfl, f, b, rfl, rfl, _, rfl, (by show 0 ≤ sizeLine; exact Nat.zero_le _), fun zp hzp => ?_⟩⟩
      have nid : zi ≠ d := fun e => by rw [e, upd_same] at hzi; cases hzi
      have npi : zp ≠ zi := fun e => by rw [e, upd_same] at hzp; cases hzp
      have npd : zp ≠ d := fun e => by rw [e, upd_ne (Ne.symm nid), upd_same] at hzp; cases hzp
      rw [upd_ne nid] at hzi
      rw [upd_ne npi, upd_ne npd] at hzp
      refine ⟨by rw [upd_ne (Ne.symm npd), upd_ne (Ne.symm nid)]; exact upd_same, KVs (t0 f b) zi zp, rfl, by show 5 ≤ 15; decide, ?_⟩
      refine q _ _ ⟨d, zi, zp, rfl, hd, hzi, hzp, ⟨upd_same, ?_, ?_, Ne.symm npi⟩, fun c o e => ?_⟩
      · rw [upd_ne nid, upd_ne (Ne.symm npi)]
        exact upd_same
      · rw [upd_ne npd]
        exact upd_same
      · rw [upd_ne (ne_of_none e hd), upd_ne (ne_of_none e hzp), upd_ne (ne_of_none e hzi), upd_ne (ne_of_none e hd)]
        exact e
    obtain ⟨d, zi, zp, rfl, nd, ni, np, hD1, e1⟩ := hv
    refine q_asg ev_c (fun H2 e2 => ?_)
    refine q_asg ev_c (fun H3 e3 => ?_)
    have hA3 := e3 _ _ (e2 _ _ (e1 _ _ hA))
    have na : a ∉ [d, zi, zp] := by simp [ne_of_none hA nd, ne_of_none hA ni, ne_of_none hA np]
    have h4 : (t0 f b).im.length = 4 := rfl
    have h0 : (t0 f b).pl.length = 0 := rfl
    have himg : imgT ns f b = (emT (endN (ns.foldl takeT (t0 f b))) 41 0).im := by
      unfold imgT finT
      rw [if_neg (by rw [(run_len ns (t0 f b)).2.2]; exact Bool.false_ne_true)]
    refine q_cut (M := fun σ' H' => ∃ (ts : TS) (sg y : Option V), DA H' d zi zp ts ∧ Bu [d, zi, zp] H3 H' ∧ (emT (endN ts) 41 0).im = imgT ns f b ∧ ts.im.length ≤ 50000 ∧ ts.pl.length ≤ 50000 ∧ σ' = [some (.ref a), some (.int f), some (.int b), some (.ref d), some (optV ts.nu), sg, y]) ?_ ?_
    · refine s_forLn (ev_var rfl) (sq_of hA3) (fun i σ' H' => ∃ (ts : TS) (y : Option V), ts = (ns.take i).foldl takeT (t0 f b) ∧ ts.st = false ∧ wOK ts ∧ DA H' d zi zp ts ∧ Bu [d, zi, zp] H3 H' ∧ σ' = [some (.ref a), some (.int f), some (.int b), some (.ref d), some (optV ts.nu), some (.int (ts.wa.getD 0)), y]) ?_ ?_ ?_ ?_
      · intro H4 e4
        exact ⟨t0 f b, none, rfl, rfl, (by intro w h; cases h), hD1.ex (e2.trans (e3.trans e4)), ex_bu e4, rfl⟩
      · rintro i σ' H' _ ⟨_, _, _, _, _, _, bb, _⟩
        exact sq_of (bb _ _ na hA3)
      · rintro i c' σ' H' hx ⟨ts, y, hts, hst, hwk, hD, bb, rfl⟩
        obtain ⟨c, hc, rfl⟩ := map_at hx
        have hlen := run_len (ns.take i) (t0 f b)
        rw [List.length_take, ← hts] at hlen
        have hi : i < ns.length := (List.getElem?_eq_some_iff.mp hc).1
        refine q_when (b := decide (c < 0)) (by walk_at "et") (fun hb H4 e4 => ?_) (fun hb H4 e4 => ?_)
        · refine ⟨ts, _, _, hD.ex e4, bb.trans (ex_bu e4), ?_, by omega, by omega, rfl⟩
          have hsp : ns = ns.take i ++ c :: ns.drop (i + 1) := by
            have := List.take_append_drop i ns
            rw [List.drop_eq_getElem_cons hi] at this
            have hci : ns[i] = c := by
              have := List.getElem?_eq_getElem hi
              rw [hc] at this
              exact (Option.some.inj this).symm
            rw [hci] at this
            exact this.symm
          have hfin : ns.foldl takeT (t0 f b) = { ts with st := true } := by
            rw [hsp, List.foldl_append, ← hts, List.foldl_cons]
            have : takeT ts c = { ts with st := true } := by
              unfold takeT
              rw [if_neg (by rw [hst]; exact Bool.false_ne_true), if_pos (of_decide_eq_true hb)]
            rw [this]
            exact stopped _ _ rfl
          rw [himg, hfin, end_st]
        have n0 := of_decide_eq_false hb
        have hst' := take_st hst n0
        have hwk' := take_wok hst n0 hwk
        have hts' : takeT ts c = (ns.take (i + 1)).foldl takeT (t0 f b) := by rw [foldl_snoc hc, hts]
        have nst : ¬ ts.st = true := by rw [hst]; exact Bool.false_ne_true
        have hD4 := hD.ex e4
        have b4 := bb.trans (ex_bu e4)
        cases hwa : ts.wa with
        | some w =>
          have hw := hwk w hwa
          have e : takeT ts c = skT ts w c := by unfold takeT; rw [if_neg nst, if_neg n0, hwa]
          refine s_if (b := !decide (w = 0)) (et_test (ev_op (ev_var rfl) ev_c rv_neI)) (fun hb H5 e5 => ?_) (fun hb H5 e5 => ?_)
          · refine q_dropP (ep_D (w, c) (hD4.ex e5) (by omega) (by omega) (ea_cons (ev_var rfl) (ea_cons (ev_var rfl) (ea_cons (ev_var rfl) ea_nil)))) (fun v H6 h6 => ?_)
            refine s_asg ev_c (fun H7 e7 => ⟨takeT ts c, some (.int c), hts', hst', hwk', ?_, ((b4.trans (ex_bu e5)).trans h6.2.2).trans (ex_bu e7), ?_⟩)
            · rw [e, ← pa_sk hw]
              exact (h6.2.1.ex e7).re _ rfl rfl rfl
            · rw [e, sk_nu, (sk_len ts w c).2.2.2.2]
              rfl
          · have : w = 0 := by simpa using hb
            omega
        | none =>
          refine s_if (b := !decide ((0 : Int) = 0)) (et_test (ev_op (ev_var rfl) ev_c rv_neI)) (fun hb H5 e5 => by rw [decide_eq_true rfl] at hb; cases hb) (fun hb H5 e5 => ?_)
          have hD5 := hD4.ex e5
          have b5 := b4.trans (ex_bu e5)
          refine s_if (b := isDg c) (et_test (ev_chain ev_c (ev_var rfl) rv_I0 (fun _ => ev_c) (fun _ => rv_I0))) (fun hd H6 e6 => ?_) (fun hd H6 e6 => ?_)
          · have e : takeT ts c = { ts with nu := some (10 * ts.nu.getD 0 + c - 48) } := by unfold takeT; rw [if_neg nst, if_neg n0, hwa]; exact if_pos hd
            refine q_ifAsg (b := decide (optV ts.nu = .non)) (v := .int (ts.nu.getD 0)) (et_test (ev_op (ev_var rfl) ev_c rv_isNon)) (fun hb => ?_) (fun hb => ?_) (fun H7 e7 => ?_)
            · cases hn : ts.nu with
              | none => exact ev_c
              | some v => rw [hn] at hb; cases hb
            · cases hn : ts.nu with
              | none => rw [hn] at hb; cases hb
              | some v => rfl
            refine s_asg (v := .int (10 * ts.nu.getD 0 + c - 48)) (ev_op (ev_op (ev_op ev_c (ev_var rfl) (rv_mulL (by decide))) (ev_var rfl) rv_I0) ev_c rv_I0) (fun H8 e8 => ⟨takeT ts c, some (.int c), hts', hst', hwk', ?_, b5.trans (ex_bu (e6.trans (e7.trans e8))), ?_⟩)
            · rw [e]
              exact (hD5.ex (e6.trans (e7.trans e8))).re _ rfl rfl rfl
            · rw [e]
              show _ = [some (V.ref a), some (V.int f), some (V.int b), some (V.ref d), some (V.int (10 * ts.nu.getD 0 + c - 48)), some (V.int (ts.wa.getD 0)), some (V.int c)]
              rw [hwa]
              rfl
          · have e : takeT ts c = sgT (endN ts) c := by unfold takeT; rw [if_neg nst, if_neg n0, hwa]; exact if_neg (by rw [hd]; exact Bool.false_ne_true)
            have hel := endN_len ts
            refine q_cut (M := fun σ' H' => DA H' d zi zp (endN ts) ∧ Bu [d, zi, zp] H3 H' ∧ σ' = [some (.ref a), some (.int f), some (.int b), some (.ref d), some .non, some (.int 0), some (.int c)]) ?_ ?_
            · refine s_when (b := ts.nu.isSome) (et_test (ev_op (ev_var rfl) ev_c rv_notN)) (fun hb H7 e7 => ?_) (fun hb H7 e7 => ?_)
              · obtain ⟨v, hv⟩ := Option.isSome_iff_exists.mp hb
                have e : endN ts = { emT ts 35 v with nu := none } := by unfold endN; rw [hv]
                refine q_dropP (ep_D (35, v) (hD5.ex (e6.trans e7)) (by omega) (by omega) (ea_cons (ev_var rfl) (ea_cons ev_c (ea_cons (ev_var (by rw [hv]; rfl)) ea_nil)))) (fun u H8 h8 => ?_)
                refine s_asg ev_c (fun H9 e9 => ⟨?_, ((b5.trans (ex_bu (e6.trans e7))).trans h8.2.2).trans (ex_bu e9), rfl⟩)
                rw [e]
                exact (h8.2.1.ex e9).re _ rfl rfl rfl
              · have hn : ts.nu = none := by
                  cases h : ts.nu with
                  | none => rfl
                  | some v => rw [h] at hb; cases hb
                have e : endN ts = ts := by unfold endN; rw [hn]
                rw [e]
                exact ⟨hD5.ex (e6.trans e7), b5.trans (ex_bu (e6.trans e7)), by rw [hn]; rfl⟩
            · rintro σ' H7 ⟨hD7, b7, rfl⟩
              refine s_if (b := (decide (c = 39) || (decide (c = 61) || decide (c = 58)))) (et_or (et_test (ev_op (ev_var rfl) ev_c rv_eqI)) (fun _ => et_or (et_test (ev_op (ev_var rfl) ev_c rv_eqI)) (fun _ => et_test (ev_op (ev_var rfl) ev_c rv_eqI)))) (fun hb H8 e8 => ?_) (fun hb H8 e8 => ?_)
              · have h3 : c = 39 ∨ c = 61 ∨ c = 58 := by simpa using hb
                have e' : takeT ts c = { endN ts with wa := some c } := by rw [e]; exact if_pos h3
                refine s_asg (ev_var rfl) (fun H9 e9 => ⟨takeT ts c, some (.int c), hts', hst', hwk', ?_, b7.trans (ex_bu (e8.trans e9)), ?_⟩)
                · rw [e']
                  exact (hD7.ex (e8.trans e9)).re _ rfl rfl rfl
                · rw [e']
                  show _ = [some (V.ref a), some (V.int f), some (V.int b), some (V.ref d), some (optV (endN ts).nu), some (V.int c), some (V.int c)]
                  rw [endN_nu]
                  rfl
              · have h3 : ¬ (c = 39 ∨ c = 61 ∨ c = 58) := by
                  intro h
                  rw [show (decide (c = 39) || (decide (c = 61) || decide (c = 58))) = true from by simpa using h] at hb
                  cases hb
                have e' : takeT ts c = coT (endN ts) c := by rw [e, co_sg h3]
                refine s_dropP (ep_D c (hD7.ex e8) (by omega) (by omega) (ea_cons (ev_var rfl) (ea_cons (ev_var rfl) ea_nil))) fun v H9 h9 => ⟨takeT ts c, some (.int c), hts', hst', hwk', ?_, (b7.trans (ex_bu e8)).trans h9.2.2, ?_⟩
                · rw [e']
                  exact h9.2.1
                · rw [e', (co_nu _ _).1, (co_nu _ _).2, endN_nu, hel.2.2.1, hwa]
                  rfl
      · rintro σ' H4 ⟨ts, y, hts, hst, hwk, hD, bb, rfl⟩
        rw [List.length_map, List.take_length] at hts
        have hlen := run_len ns (t0 f b)
        rw [← hts] at hlen
        exact ⟨ts, _, y, hD, bb, by rw [himg, ← hts], by omega, by omega, rfl⟩
    · rintro σ' H4 ⟨ts, sg, y, hD, bb, him, hz, hp, rfl⟩
      have hel := endN_len ts
      refine q_cut (M := fun σ' H' => DA H' d zi zp (endN ts) ∧ Bu [d, zi, zp] H3 H' ∧ ∃ nu, σ' = [some (.ref a), some (.int f), some (.int b), some (.ref d), nu, sg, y]) ?_ ?_
      · refine s_when (b := ts.nu.isSome) (et_test (ev_op (ev_var rfl) ev_c rv_notN)) (fun hb H7 e7 => ?_) (fun hb H7 e7 => ?_)
        · obtain ⟨v, hv⟩ := Option.isSome_iff_exists.mp hb
          have e : endN ts = { emT ts 35 v with nu := none } := by unfold endN; rw [hv]
          refine s_dropP (ep_D (35, v) (hD.ex e7) (by omega) (by omega) (ea_cons (ev_var rfl) (ea_cons ev_c (ea_cons (ev_var (by rw [hv]; rfl)) ea_nil)))) fun u H8 h8 => ⟨?_, (bb.trans (ex_bu e7)).trans h8.2.2, _, rfl⟩
          rw [e]
          exact h8.2.1.re _ rfl rfl rfl
        · have hn : ts.nu = none := by
            cases h : ts.nu with
            | none => rfl
            | some v => rw [h] at hb; cases hb
          have e : endN ts = ts := by unfold endN; rw [hn]
          rw [e]
          exact ⟨hD.ex e7, bb.trans (ex_bu e7), _, rfl⟩
      · rintro σ' H7 ⟨hD7, b7, nu, rfl⟩
        refine q_dropP (ep_D (41, 0) hD7 (by omega) (by omega) (ea_cons (ev_var rfl) (ea_cons ev_c (ea_cons ev_c ea_nil)))) (fun u H8 h8 => ?_)
        have hD8 := h8.2.1
        refine s_ret (ev_dget (ev_var rfl) ev_c hD8.1 kl_i) (fun H9 e9 => k zi H9 ni ?_ ?_)
        · intro c o e
          have m : c ∉ [d, zi, zp] := by simp [ne_of_none e nd, ne_of_none e ni, ne_of_none e np]
          exact e9 _ _ (h8.2.2 _ _ m (b7 _ _ m (e3 _ _ (e2 _ _ (e1 _ _ e)))))
        · have := e9 _ _ hD8.2.1
          rw [this]
          show some (HO.lst ((emT (endN ts) 41 0).im.map V.int)) = _
          rw [him]

def sp_law_is_integer (K : PySem.W.Frag) : Sp := fun vs H Q _ => ∃ i : Int, vs = [.int i] ∧ RetV (.bl true) H Q
theorem v_law_is_integer {i : Int} {H : Hp} : SpV (sp_law_is_integer K) [.int i] H (.bl true) := fun _ _ _ q _ => ⟨i, rfl, q⟩
theorem ok_law_is_integer (T : Txt K mg) : FnOk P w K mg base CX0 1 T.f_law_is_integer T.d_law_is_integer ["_law_actual"] (sp_law_is_integer K) := by
  refine T.F_law_is_integer.ok sc_law_is_integer (fun vs H Q E h => ?_) (fun cdv A outer s H vs Q E hr h => ?_)
  · obtain ⟨i, rfl, _⟩ := h
    rfl
  · obtain ⟨i, rfl, k⟩ := h
    refine ⟨_, (pss_one (ps_ret (pe_and (pe_callB call_isi (by rfl) T.n_isinstance (by decide +kernel) (pa_cons (pv 0) (pa_cons (pe_bltn (v := .ty "int") (by rfl) T.n_int (by decide +kernel) rfl) pa_nil))) (pe_one (pe_not (pe_callB call_isi (by rfl) T.n_isinstance (by decide +kernel) (pa_cons (pv 0) (pa_cons (pe_bltn (v := .ty "bool") (by rfl) T.n_bool (by decide +kernel) rfl) pa_nil)))))))), ?_⟩
    exact s_ret (v := .bl (true && !false)) (ev_andV (ev_cb (ea_cons (ev_var rfl) (ea_cons ev_c ea_nil)) rc_isInt) (fun _ => ev_notV (ev_cb (ea_cons (ev_var rfl) (ea_cons ev_c ea_nil)) rc_isIntB))) k
def sp_law_is_integers (K : PySem.W.Frag) : Sp := fun vs H Q _ => ∃ (p : Addr) (ns : List Int), vs = [.ref p] ∧ H p = some (.lst (ns.map V.int)) ∧ RetV (.bl true) H Q
theorem v_law_is_integers {p : Addr} {ns : List Int} {H : Hp} (h : H p = some (.lst (ns.map V.int))) : SpV (sp_law_is_integers K) [.ref p] H (.bl true) := fun _ e _ q _ => ⟨p, ns, rfl, e _ _ h, q⟩
theorem ok_law_is_integers (T : Txt K mg) : FnOk P w K mg base CX0 2 T.f_law_is_integers T.d_law_is_integers ["_law_actual"] (sp_law_is_integers K) := by
  refine T.F_law_is_integers.ok sc_law_is_integers (fun vs H Q E h => ?_) (fun cdv A outer s H vs Q E hr h => ?_)
  · obtain ⟨p, ns, rfl, _⟩ := h
    rfl
  · obtain ⟨p, ns, rfl, hp, k⟩ := h
    refine ⟨_, (pss_cons (ps_if (pt_not (pt_val (pe_callB call_isi (by rfl) T.n_isinstance (by decide +kernel) (pa_cons (pv 0) (pa_cons (pe_bltn (v := .ty "list") (by rfl) T.n_list (by decide +kernel) rfl) pa_nil))))) (pss_one (ps_ret pe_bl)) pss_nil)
        (pss_cons (ps_for PassesOwn.never rfl (pi_list (pv 0)) (pg_name (i := 1) sc_law_is_integers.nd rfl (Or.inl rfl)) (pss_one (ps_if (pt_not (pt_val (pe_call (ok_law_is_integer T) (hr.mono (by decide)) (by rfl) T.g_law_is_integer T.F_law_is_integer.kp T.b_law_is_integer .nil pass0 (pa_cons (pv 1) pa_nil)))) (pss_one (ps_ret pe_bl)) pss_nil)))
        (pss_one (ps_ret pe_bl)))), ?_⟩
    refine q_when (b := !true) (et_not (et_B (ev_cb (ea_cons (ev_var rfl) (ea_cons ev_c ea_nil)) (rc_isList hp)))) (fun hb => nomatch hb) (fun _ H1 e1 => ?_)
    refine q_forLn (ev_var rfl) (sq_of (e1 _ _ hp)) (fun i σ' H' => Ex H H' ∧ ∃ y, σ' = [some (.ref p), y]) (fun H2 e2 => ⟨e1.trans e2, none, rfl⟩) (fun i σ' H' _ hq => sq_of (hq.1 _ _ hp)) ?_ ?_
    · rintro i x σ' H' hx ⟨e2, y, rfl⟩
      obtain ⟨c, hc, rfl⟩ := map_at hx
      exact s_when (b := !true) (et_not (et_B (ev_call (ea_cons (ev_var rfl) ea_nil) v_law_is_integer))) (fun hb => nomatch hb) (fun _ H3 e3 => ⟨e2.trans e3, _, rfl⟩)
    · rintro σ' H' ⟨e2, y, rfl⟩
      exact s_ret ev_c fun H3 e3 => k H3 (e2.trans e3)

theorem rv_notNon {H : Hp} {v : V} : RV (fun x y H Q => y = .non ∧ Q (.bl (!decide (x = .non))) H) v .non H (.bl (!decide (v = .non))) := fun H1 _ _ q => ⟨rfl, q H1 (Ex.refl H1)⟩
/-! ### the followed state -/
def fx (s : TS) : Option (V × V × V) := some (optV s.nu, optV s.wa, .bl s.st)
def wx (s : TS) : TS := { s with ex := fx s }
theorem kl_n {s : TS} {zi zp : Addr} : valV (KVs (wx s) zi zp) (.inr "numeral") = some (optV s.nu) := rfl
theorem kl_w {s : TS} {zi zp : Addr} : valV (KVs (wx s) zi zp) (.inr "waiting") = some (optV s.wa) := rfl
theorem kl_o {s : TS} {zi zp : Addr} : valV (KVs (wx s) zi zp) (.inr "over") = some (.bl s.st) := rfl
theorem kp_n {s : TS} {zi zp : Addr} {a b c v : V} (h : s.ex = some (a, b, c)) : putK (KVs s zi zp) (.inr "numeral") v = KVs { s with ex := some (v, b, c) } zi zp := by
  cases s
  simp at h
  subst h
  rfl
theorem kp_w {s : TS} {zi zp : Addr} {a b c v : V} (h : s.ex = some (a, b, c)) : putK (KVs s zi zp) (.inr "waiting") v = KVs { s with ex := some (a, v, c) } zi zp := by
  cases s
  simp at h
  subst h
  rfl
theorem kp_o {s : TS} {zi zp : Addr} {a b c v : V} (h : s.ex = some (a, b, c)) : putK (KVs s zi zp) (.inr "over") v = KVs { s with ex := some (a, b, v) } zi zp := by
  cases s
  simp at h
  subst h
  rfl
theorem pa_ex {s : TS} {w c : Int} : (paT (wx s) w c).ex = fx s := by
  unfold paT
  split
  · rfl
  split <;> rfl
theorem pa_wx {s : TS} {w c : Int} (hw : w = 39 ∨ w = 61 ∨ w = 58) : { paT (wx s) w c with ex := some (optV s.nu, .non, .bl s.st) } = { wx (skT s w c) with wa := (paT (wx s) w c).wa } := by
  rcases hw with rfl | rfl | rfl <;> rfl
theorem br_wx {c : Int} {f : TS → TS} (h : brT c = some f) (s : TS) : f (wx s) = wx (f s) := by
  unfold brT at h
  repeat' split at h
  all_goals first
    | (cases h; rfl)
    | cases h
theorem co_wx (s : TS) (c : Int) : coT (wx s) c = wx (coT s c) := by
  unfold coT
  split
  · rename_i f hf
    exact br_wx hf s
  split <;> rfl
theorem take_wok2 {s : TS} {c : Int} (hw : wOK s) : wOK (takeT s c) := by
  by_cases hs : s.st = true
  · rw [show takeT s c = s from if_pos hs]
    exact hw
  by_cases h0 : c < 0
  · rw [show takeT s c = { s with st := true } from (if_neg hs).trans (if_pos h0)]
    exact hw
  exact take_wok (by simpa using hs) h0 hw
def sp_law_follow (K : PySem.W.Frag) : Sp := fun vs H Q _ => ∃ (d zi zp : Addr) (s : TS) (c : Int), vs = [.ref d, .int c] ∧ DA H d zi zp (wx s) ∧ wOK s ∧ s.im.length ≤ 50000 ∧ s.pl.length ≤ 50000 ∧ ∀ v H', Dt d zi zp H (wx (takeT s c)) .non v H' → Q v H'
theorem ep_follow {d zi zp : Addr} {s : TS} {c : Int} {σ : L2.St} {H : Hp} {t : TA} (hA : DA H d zi zp (wx s)) (hw : wOK s) (hz : s.im.length ≤ 50000) (hp : s.pl.length ≤ 50000) (ht : EvA t σ H [.ref d, .int c]) : EvP (tCall (sp_law_follow K) [] E0 t) σ H (Dt d zi zp H (wx (takeT s c)) .non) :=
  ep_call ht fun H1 e1 Q k => ⟨d, zi, zp, s, c, rfl, hA.ex e1, hw, hz, hp, fun v H' h => k v H' (dt_bk h (ex_bu e1))⟩
theorem ok_law_follow (T : Txt K mg) : FnOk P w K mg base CX0 4 T.f_law_follow T.d_law_follow ["_law_state", "_law_code_here"] (sp_law_follow K) := by
  refine T.F_law_follow.ok sc_law_follow (fun vs H Q E h => ?_) (fun cdv A outer s H vs Q E hr h => ?_)
  · obtain ⟨d, zi, zp, s, c, rfl, _⟩ := h
    rfl
  · obtain ⟨d, zi, zp, s, c, rfl, hA, hwk, hz, hp, k⟩ := h
    refine ⟨_, (pss_one (ps_if (PW.pt (pw_or (pt_val (pe_dget (hu_of hr) (pv 0) pe_str (fun _ _ => rfl))) (pw_or1 (pt_cmpR op_lt (pv 1) pe_int (nomark _))))) (pss_one (ps_dput (hu_of hr) (pv 0) pe_str pe_bl rfl)) (pss_one (ps_if (pt_cmpR op_notN (pe_dget (hu_of hr) (pv 0) pe_str (fun _ _ => rfl)) pe_non (nomark _)) (pss_cons (ps_expr (pe_call (ok_law_pair T) (hr.mono (by decide)) (by rfl) T.g_law_pair T.F_law_pair.kp T.b_law_pair .nil pass0 (pa_cons (pv 0) (pa_cons (pe_dget (hu_of hr) (pv 0) pe_str (fun _ _ => rfl)) (pa_cons (pv 1) pa_nil)))))
        (pss_one (ps_dput (hu_of hr) (pv 0) pe_str pe_non rfl))) (pss_one (ps_if (pt_chain op_le op_le pe_int (pv 1) pe_int) (pss_cons (ps_set (i := 2) sc_law_follow.nd rfl (Or.inl rfl) pe_int)
        (pss_cut (ps_if (pt_cmpR op_notN (pe_dget (hu_of hr) (pv 0) pe_str (fun _ _ => rfl)) pe_non (nomark _)) (pss_one (ps_set (i := 2) sc_law_follow.nd rfl (Or.inl rfl) (pe_dget (hu_of hr) (pv 0) pe_str (fun _ _ => rfl)))) pss_nil)
        (pss_one (ps_dput (hu_of hr) (pv 0) pe_str (pe_op op_sub (pe_op op_add (pe_op op_mul pe_int (pv 2)) (pv 1)) pe_int) rfl)))) (pss_cut (ps_if (pt_cmpR op_notN (pe_dget (hu_of hr) (pv 0) pe_str (fun _ _ => rfl)) pe_non (nomark _)) (pss_cons (ps_expr (pe_call (ok_law_emit T) (hr.mono (by decide)) (by rfl) T.g_law_emit T.F_law_emit.kp T.b_law_emit .nil pass0 (pa_cons (pv 0) (pa_cons pe_int (pa_cons (pe_dget (hu_of hr) (pv 0) pe_str (fun _ _ => rfl)) pa_nil)))))
        (pss_one (ps_dput (hu_of hr) (pv 0) pe_str pe_non rfl))) pss_nil)
        (pss_one (ps_if (PW.pt (pw_or (pt_cmpR op_eq (pv 1) pe_int (nomark _)) (pw_or (pt_cmpR op_eq (pv 1) pe_int (nomark _)) (pw_or1 (pt_cmpR op_eq (pv 1) pe_int (nomark _)))))) (pss_one (ps_dput (hu_of hr) (pv 0) pe_str (pv 1) rfl)) (pss_one (ps_expr (pe_call (ok_law_code T) (hr.mono (by decide)) (by rfl) T.g_law_code T.F_law_code.kp T.b_law_code .nil pass0 (pa_cons (pv 0) (pa_cons (pv 1) pa_nil)))))))))))))), ?_⟩
    refine s_if (b := (s.st || decide (c < 0))) (et_or (et_B (ev_dget (ev_var rfl) ev_c hA.1 kl_o)) (fun _ => et_test (ev_op (ev_var rfl) ev_c rv_I0))) (fun hb H1 e1 => ?_) (fun hb H1 e1 => ?_)
    · have e : takeT s c = { s with st := true } := by
        by_cases hs : s.st = true
        · rw [show takeT s c = s from if_pos hs]
          cases s
          simp at hs
          subst hs
          rfl
        · have h0 : c < 0 := by
            rw [show s.st = false from by simpa using hs] at hb
            simpa using hb
          exact (if_neg hs).trans (if_pos h0)
      rw [e] at k
      have hA1 := hA.ex e1
      refine s_dput (k := .inr "over") ev_c (ev_var rfl) ev_c hA1.1 (kv_len hA1) (fun H2 e2 => ?_)
      rw [kp_o (s := wx s) rfl]
      exact k _ _ ⟨rfl, (hA1.ex e2).set (wx { s with st := true }) rfl rfl, db_d (ex_bu (e1.trans e2))⟩
    have hst : s.st = false := by
      cases h : s.st with
      | true => rw [h] at hb; cases hb
      | false => rfl
    have nst : ¬ s.st = true := by rw [hst]; exact Bool.false_ne_true
    have n0 : ¬ c < 0 := by
      intro h
      rw [decide_eq_true h, Bool.or_true] at hb
      cases hb
    have hA1 := hA.ex e1
    refine s_if (b := s.wa.isSome) (et_test (ev_op (ev_dget (ev_var rfl) ev_c hA1.1 kl_w) ev_c rv_notN)) (fun hb H2 e2 => ?_) (fun hb H2 e2 => ?_)
    · obtain ⟨w, hw⟩ := Option.isSome_iff_exists.mp hb
      have e : takeT s c = skT s w c := by unfold takeT; rw [if_neg nst, if_neg n0, hw]
      rw [e] at k
      have hA2 := hA1.ex e2
      have gw : Ev (tDGet (tVar 0) (tC (.str "waiting"))) (L2.start N_law_follow [.ref d, .int c]) H2 (.int w) := by
        have := ev_dget (td := tVar 0) (ty := tC (.str "waiting")) (σ := L2.start N_law_follow [.ref d, .int c]) (ev_var rfl) ev_c hA2.1 kl_w
        rw [hw] at this
        exact this
      refine q_dropP (ep_D (w, c) hA2 (by show s.im.length ≤ 70000; omega) (by show s.pl.length ≤ 70000; omega) (ea_cons (ev_var rfl) (ea_cons gw (ea_cons (ev_var rfl) ea_nil)))) (fun v H3 h3 => ?_)
      have hA3 := h3.2.1
      refine s_dput (k := .inr "waiting") ev_c (ev_var rfl) ev_c hA3.1 (kv_len hA3) (fun H4 e4 => ?_)
      rw [kp_w (s := paT (wx s) w c) pa_ex, pa_wx (hwk w hw)]
      have hw3 := hwk w hw
      refine k _ _ ⟨rfl, (hA3.ex e4).set (wx (skT s w c)) ?_ ?_, db_d (((ex_bu (e1.trans e2)).trans h3.2.2).trans (ex_bu e4))⟩
      · rcases hw3 with rfl | rfl | rfl <;> rfl
      · rcases hw3 with rfl | rfl | rfl <;> rfl
    have hw : s.wa = none := by
      cases h : s.wa with
      | none => rfl
      | some w => rw [h] at hb; cases hb
    have hA2 := hA1.ex e2
    have e12 := e1.trans e2
    refine s_if (b := isDg c) (et_test (ev_chain ev_c (ev_var rfl) rv_I0 (fun _ => ev_c) (fun _ => rv_I0))) (fun hd H3 e3 => ?_) (fun hd H3 e3 => ?_)
    · have e : takeT s c = { s with nu := some (10 * s.nu.getD 0 + c - 48) } := by unfold takeT; rw [if_neg nst, if_neg n0, hw]; exact if_pos hd
      rw [e] at k
      refine q_asg ev_c (fun H4 e4 => ?_)
      have hA4 := hA2.ex (e3.trans e4)
      refine q_cut (M := fun σ' H' => Ex H4 H' ∧ σ' = [some (.ref d), some (.int c), some (.int (s.nu.getD 0))]) ?_ ?_
      · refine s_when (b := s.nu.isSome) (et_test (ev_op (ev_dget (ev_var rfl) ev_c hA4.1 kl_n) ev_c rv_notN)) (fun hb H5 e5 => ?_) (fun hb H5 e5 => ?_)
        · obtain ⟨v, hv⟩ := Option.isSome_iff_exists.mp hb
          refine s_asg (ev_dget (ev_var rfl) ev_c (hA4.ex e5).1 kl_n) (fun H6 e6 => ⟨e5.trans e6, ?_⟩)
          rw [hv]
          rfl
        · have hn : s.nu = none := by
            cases h : s.nu with
            | none => rfl
            | some v => rw [h] at hb; cases hb
          rw [hn]
          exact ⟨e5, rfl⟩
      · rintro σ' H5 ⟨e5, rfl⟩
        have hA5 := hA4.ex e5
        refine s_dput (k := .inr "numeral") (v := .int (10 * s.nu.getD 0 + c - 48)) (ev_op (ev_op (ev_op ev_c (ev_var rfl) (rv_mulL (by decide))) (ev_var rfl) rv_I0) ev_c rv_I0) (ev_var rfl) ev_c hA5.1 (kv_len hA5) (fun H6 e6 => ?_)
        rw [kp_n (s := wx s) rfl]
        exact k _ _ ⟨rfl, (hA5.ex e6).set (wx { s with nu := some (10 * s.nu.getD 0 + c - 48) }) rfl rfl, db_d (ex_bu (e12.trans (e3.trans (e4.trans (e5.trans e6)))))⟩
    · have e : takeT s c = sgT (endN s) c := by unfold takeT; rw [if_neg nst, if_neg n0, hw]; exact if_neg (by rw [hd]; exact Bool.false_ne_true)
      have hel := endN_len s
      have hA3 := hA2.ex e3
      refine q_cut (M := fun σ' H' => DA H' d zi zp (wx (endN s)) ∧ Bu [d, zi, zp] H H' ∧ σ' = [some (.ref d), some (.int c), none]) ?_ ?_
      · refine s_when (b := s.nu.isSome) (et_test (ev_op (ev_dget (ev_var rfl) ev_c hA3.1 kl_n) ev_c rv_notN)) (fun hb H5 e5 => ?_) (fun hb H5 e5 => ?_)
        · obtain ⟨v, hv⟩ := Option.isSome_iff_exists.mp hb
          have ee : endN s = { emT s 35 v with nu := none } := by unfold endN; rw [hv]
          have hA5 := hA3.ex e5
          have gn : Ev (tDGet (tVar 0) (tC (.str "numeral"))) (L2.start N_law_follow [.ref d, .int c]) H5 (.int v) := by
            have := ev_dget (td := tVar 0) (ty := tC (.str "numeral")) (σ := L2.start N_law_follow [.ref d, .int c]) (ev_var rfl) ev_c hA5.1 kl_n
            rw [hv] at this
            exact this
          refine q_dropP (ep_D (35, v) hA5 (by show s.im.length ≤ 80000; omega) (by show s.pl.length ≤ 80000; omega) (ea_cons (ev_var rfl) (ea_cons ev_c (ea_cons gn ea_nil)))) (fun u H6 h6 => ?_)
          have hA6 := h6.2.1
          refine s_dput (k := .inr "numeral") ev_c (ev_var rfl) ev_c hA6.1 (kv_len hA6) (fun H7 e7 => ?_)
          rw [kp_n (s := emT (wx s) 35 v) rfl]
          refine ⟨?_, db_d (((ex_bu (e12.trans (e3.trans e5))).trans h6.2.2).trans (ex_bu e7)), rfl⟩
          rw [ee]
          exact (hA6.ex e7).set (wx { emT s 35 v with nu := none }) rfl rfl
        · have hn : s.nu = none := by
            cases h : s.nu with
            | none => rfl
            | some v => rw [h] at hb; cases hb
          have ee : endN s = s := by unfold endN; rw [hn]
          rw [ee]
          exact ⟨hA3.ex e5, ex_bu (e12.trans (e3.trans e5)), rfl⟩
      · rintro σ' H5 ⟨hA5, b5, rfl⟩
        refine s_if (b := (decide (c = 39) || (decide (c = 61) || decide (c = 58)))) (et_or (et_test (ev_op (ev_var rfl) ev_c rv_eqI)) (fun _ => et_or (et_test (ev_op (ev_var rfl) ev_c rv_eqI)) (fun _ => et_test (ev_op (ev_var rfl) ev_c rv_eqI)))) (fun hb H8 e8 => ?_) (fun hb H8 e8 => ?_)
        · have h3 : c = 39 ∨ c = 61 ∨ c = 58 := by simpa using hb
          have e' : takeT s c = { endN s with wa := some c } := by rw [e]; exact if_pos h3
          rw [e'] at k
          have hA8 := hA5.ex e8
          refine s_dput (k := .inr "waiting") (ev_var rfl) (ev_var rfl) ev_c hA8.1 (kv_len hA8) (fun H9 e9 => ?_)
          rw [kp_w (s := wx (endN s)) rfl]
          exact k _ _ ⟨rfl, (hA8.ex e9).set (wx { endN s with wa := some c }) rfl rfl, db_d ((b5.trans (ex_bu e8)).trans (ex_bu e9))⟩
        · have h3 : ¬ (c = 39 ∨ c = 61 ∨ c = 58) := by
            intro h
            rw [show (decide (c = 39) || (decide (c = 61) || decide (c = 58))) = true from by simpa using h] at hb
            cases hb
          have e' : takeT s c = coT (endN s) c := by rw [e, co_sg h3]
          rw [e'] at k
          refine s_dropP (ep_D c (hA5.ex e8) (by show (endN s).im.length ≤ 60000; omega) (by show (endN s).pl.length ≤ 60000; omega) (ea_cons (ev_var rfl) (ea_cons (ev_var rfl) ea_nil))) fun v H9 h9 => k _ _ ⟨rfl, ?_, (b5.trans (ex_bu e8)).trans h9.2.2⟩
          rw [← co_wx]
          exact h9.2.1

def sp_law_made (K : PySem.W.Frag) (C : Addr) : Sp := fun vs H Q _ => ∃ f b ch : Int, vs = [.int f, .int b, .int ch] ∧ (ch.fmod 2 = 0 → f = 200 ∧ b = 1) ∧ ∀ v H', NewT C H f b v H' → Q v H'
theorem newT_bk {C : Addr} {H H1 : Hp} {f b : Int} {v : V} {H' : Hp} (h : NewT C H1 f b v H') (e : Ex H H1) : NewT C H f b v H' := by
  obtain ⟨x, dx, qi, qp, hv, n1, n2, n3, hR, e2⟩ := h
  exact ⟨x, dx, qi, qp, hv, fresh_back e n1, fresh_back e n2, fresh_back e n3, hR, e.trans e2⟩
theorem ep_made {C : Addr} {f b ch : Int} {σ : L2.St} {H : Hp} {t : TA} (hc : ch.fmod 2 = 0 → f = 200 ∧ b = 1) (ht : EvA t σ H [.int f, .int b, .int ch]) : EvP (tCall (sp_law_made K C) [] E0 t) σ H (NewT C H f b) :=
  ep_call ht fun H1 e1 Q k => ⟨f, b, ch, rfl, hc, fun v H' h => k v H' (newT_bk h e1)⟩
theorem ok_law_made (T : Txt K mg) : FnOk P w K mg base CX0 3 T.f_law_made T.d_law_made ["_law_first", "_law_by", "_law_choice"] (sp_law_made K T.C_Translator) := by
  refine T.F_law_made.ok sc_law_made (fun vs H Q E h => ?_) (fun cdv A outer s H vs Q E hr h => ?_)
  · obtain ⟨f, b, ch, rfl, _⟩ := h
    rfl
  · obtain ⟨f, b, ch, rfl, hc, k⟩ := h
    refine ⟨_, (pss_cons (ps_if (pt_cmpR op_eq (pe_op op_modN (pe_callTy call_int1 (by rfl) T.n_int (by decide +kernel) (pa_cons (pv 2) pa_nil)) pe_int) pe_int (nomark _)) (pss_one (ps_ret (pe_make0 T.m_Translator_init (ok_Translator_init T) (hr.mono (by decide)) (by rfl) T.gc_Translator (bs_Translator_init T).choose_spec.2 (bs_Translator_init T).choose_spec.1 pass0))) pss_nil)
        (pss_one (ps_ret (pe_makeK0 T.m_Translator_init (ok_Translator_init T) (hr.mono (by decide)) (by rfl) T.gc_Translator (kb_Translator_init_first_by T).choose_spec pass0 (pk_cons (pv 0) (pk_cons (pv 1) pk_nil)))))), ?_⟩
    refine q_when (b := decide (ch.fmod 2 = 0)) (et_test (ev_op (ev_op (ev_cb (ea_cons (ev_var rfl) ea_nil) rc_int) ev_c (rv_mod (by decide))) ev_c rv_eqI)) (fun hb H1 e1 => ?_) (fun hb H1 e1 => ?_)
    · obtain ⟨rfl, rfl⟩ := hc (of_decide_eq_true hb)
      exact s_retP (ep_newT0 (f := 200) (b := 1)) fun v H' h => k v H' (newT_bk h e1)
    · exact s_retP (ep_newT (fun v => rfl) (ea_cons (ev_var rfl) (ea_cons (ev_var rfl) ea_nil))) fun v H' h => k v H' (newT_bk h e1)
def sp_law_agrees (K : PySem.W.Frag) (C : Addr) : Sp := fun vs H Q _ => ∃ (x dx qi qp d zi zp : Addr) (s : TS), vs = [.ref x, .ref d] ∧ RA C H x dx qi qp s ∧ DA H d zi zp (wx s) ∧ ∀ H', Ex H H' → Q (.bl true) H'
theorem v_agrees {C x dx qi qp d zi zp : Addr} {s : TS} {H : Hp} (hR : RA C H x dx qi qp s) (hA : DA H d zi zp (wx s)) : SpV (sp_law_agrees K C) [.ref x, .ref d] H (.bl true) := fun _ e _ k _ => ⟨x, dx, qi, qp, d, zi, zp, s, rfl, hR.ex e, hA.ex e, k⟩
theorem ok_law_agrees (T : Txt K mg) : FnOk P w K mg base CX0 3 T.f_law_agrees T.d_law_agrees ["_law_translator", "_law_state"] (sp_law_agrees K T.C_Translator) := by
  refine T.F_law_agrees.ok sc_law_agrees (fun vs H Q E h => ?_) (fun cdv A outer s H vs Q E hr h => ?_)
  · obtain ⟨x, dx, qi, qp, d, zi, zp, s, rfl, _⟩ := h
    rfl
  · obtain ⟨x, dx, qi, qp, d, zi, zp, s, rfl, hR, hA, k⟩ := h
    refine ⟨_, (pss_cons (ps_if (PW.pt (pw_or (pt_not (pt_val (pe_call (ok_law_is_integers T) (hr.mono (by decide)) (by rfl) T.g_law_is_integers T.F_law_is_integers.kp T.b_law_is_integers .nil pass0 (pa_cons (pe_fld (pv 0) rfl) pa_nil)))) (pw_or1 (pt_cmpR (op_neD hr.units) (pe_fld (pv 0) rfl) (pe_dget (hu_of hr) (pv 1) pe_str (fun _ _ => rfl)) (nomark _))))) (pss_one (ps_ret pe_bl)) pss_nil)
        (pss_cons (ps_if (PW.pt (pw_or (pt_not (pt_val (pe_call (ok_law_is_integer T) (hr.mono (by decide)) (by rfl) T.g_law_is_integer T.F_law_is_integer.kp T.b_law_is_integer .nil pass0 (pa_cons (pe_fld (pv 0) rfl) pa_nil)))) (pw_or1 (pt_not (pt_val (pe_call (ok_law_is_integer T) (hr.mono (by decide)) (by rfl) T.g_law_is_integer T.F_law_is_integer.kp T.b_law_is_integer .nil pass0 (pa_cons (pe_fld (pv 0) rfl) pa_nil))))))) (pss_one (ps_ret pe_bl)) pss_nil)
        (pss_cons (ps_if (PW.pt (pw_or (pt_not (pt_val (pe_call (ok_law_is_integers T) (hr.mono (by decide)) (by rfl) T.g_law_is_integers T.F_law_is_integers.kp T.b_law_is_integers .nil pass0 (pa_cons (pe_fld (pv 0) rfl) pa_nil)))) (pw_or1 (pt_cmpR (op_neD hr.units) (pe_fld (pv 0) rfl) (pe_dget (hu_of hr) (pv 1) pe_str (fun _ _ => rfl)) (nomark _))))) (pss_one (ps_ret pe_bl)) pss_nil)
        (pss_cons (ps_for PassesOwn.never rfl (pi_list (pe_lst (pa_cons (pe_lst (pa_cons (pe_fld (pv 0) rfl) (pa_cons (pe_dget (hu_of hr) (pv 1) pe_str (fun _ _ => rfl)) pa_nil))) (pa_cons (pe_lst (pa_cons (pe_fld (pv 0) rfl) (pa_cons (pe_dget (hu_of hr) (pv 1) pe_str (fun _ _ => rfl)) pa_nil))) pa_nil)))) (pg_name (i := 2) sc_law_agrees.nd rfl (Or.inl rfl)) (pss_one (ps_if (pt_cmpR op_isN (pe_ix ix_list (pv 2) pe_int (fun _ _ => rfl)) pe_non (nomark _)) (pss_one (ps_if (pt_cmpR op_notN (pe_ix ix_list (pv 2) pe_int (fun _ _ => rfl)) pe_non (nomark _)) (pss_one (ps_ret pe_bl)) pss_nil)) (pss_one (ps_if (PW.pt (pw_or (pt_not (pt_val (pe_call (ok_law_is_integer T) (hr.mono (by decide)) (by rfl) T.g_law_is_integer T.F_law_is_integer.kp T.b_law_is_integer .nil pass0 (pa_cons (pe_ix ix_list (pv 2) pe_int (fun _ _ => rfl)) pa_nil)))) (pw_or1 (pt_cmpR op_ne (pe_ix ix_list (pv 2) pe_int (fun _ _ => rfl)) (pe_ix ix_list (pv 2) pe_int (fun _ _ => rfl)) (nomark _))))) (pss_one (ps_ret pe_bl)) pss_nil)))))
        (pss_one (ps_ret (pe_and (pe_cmpR op_eq (pe_fld (pv 0) rfl) (pe_dget (hu_of hr) (pv 1) pe_str (fun _ _ => rfl)) (nomark _)) (pe_one (pe_cmpR op_eq (pe_fld (pv 0) rfl) (pe_dget (hu_of hr) (pv 1) pe_str (fun _ _ => rfl)) (nomark _)))))))))), ?_⟩
    refine q_when (b := (!true || !decide (s.im = s.im))) (et_or (et_not (et_B (ev_call (ea_cons (ev_fld (ev_var rfl) hR.1 T.cl_Translator T.na_Translator_image lk_i) ea_nil) (v_law_is_integers hR.2.1)))) (fun _ => et_test (ev_op (ev_fld (ev_var rfl) hR.1 T.cl_Translator T.na_Translator_image lk_i) (ev_dget (ev_var rfl) ev_c hA.1 kl_i) (rv_neL (sq_of hR.2.1) (sq_of hA.2.1))))) (fun hb => by rw [decide_eq_true rfl] at hb; cases hb) (fun _ H1 e1 => ?_)
    have hR1 := hR.ex e1
    have hA1 := hA.ex e1
    refine q_when (b := (!true || !true)) (et_or (et_not (et_B (ev_call (ea_cons (ev_fld (ev_var rfl) hR1.1 T.cl_Translator T.na_Translator_m lk_m) ea_nil) v_law_is_integer))) (fun _ => et_not (et_B (ev_call (ea_cons (ev_fld (ev_var rfl) hR1.1 T.cl_Translator T.na_Translator_k lk_k) ea_nil) v_law_is_integer)))) (fun hb => absurd hb (by decide)) (fun _ H2 e2 => ?_)
    have hR2 := hR1.ex e2
    have hA2 := hA1.ex e2
    refine q_when (b := (!true || !decide (s.pl = s.pl))) (et_or (et_not (et_B (ev_call (ea_cons (ev_fld (ev_var rfl) hR2.1 T.cl_Translator T.na_Translator_pile lk_p) ea_nil) (v_law_is_integers hR2.2.2.1)))) (fun _ => et_test (ev_op (ev_fld (ev_var rfl) hR2.1 T.cl_Translator T.na_Translator_pile lk_p) (ev_dget (ev_var rfl) ev_c hA2.1 kl_p) (rv_neL (sq_of hR2.2.2.1) (sq_of hA2.2.2.1))))) (fun hb => by rw [decide_eq_true rfl] at hb; cases hb) (fun _ H3 e3 => ?_)
    have hR3 := hR2.ex e3
    have hA3 := hA2.ex e3
    have e13 := e1.trans (e2.trans e3)
    refine q_forLP (ep_two (el_lst (ea_cons (ev_fld (ev_var rfl) hR3.1 T.cl_Translator T.na_Translator_numeral lk_n) (ea_cons (ev_dget (ev_var rfl) ev_c hA3.1 kl_n) ea_nil)) (by show 2 ≤ 100000; decide)) (el_lst (ea_cons (ev_fld (ev_var rfl) hR3.1 T.cl_Translator T.na_Translator_waiting lk_w) (ea_cons (ev_dget (ev_var rfl) ev_c hA3.1 kl_w) ea_nil)) (by show 2 ≤ 100000; decide))) (fun v H4 hv => ?_)
    obtain ⟨p, p1, p2, rfl, e4, h4, h41, h42⟩ := hv
    refine ⟨p, [.ref p1, .ref p2], rfl, sq_of h4, fun i σ' H' => Ex H4 H' ∧ ∃ y, σ' = [some (.ref x), some (.ref d), y], ⟨Ex.refl H4, none, rfl⟩, fun i σ' H' _ hq => sq_of (hq.1 _ _ h4), ?_, ?_⟩
    · rintro i y σ' H' hy ⟨e5, z, rfl⟩
      have hp : ∃ (a : Addr) (o : Option Int), y = .ref a ∧ H4 a = some (.lst [optV o, optV o]) := by
        match i, hy with
        | 0, hy => cases hy; exact ⟨p1, s.nu, rfl, h41⟩
        | 1, hy => cases hy; exact ⟨p2, s.wa, rfl, h42⟩
        | i + 2, hy => simp at hy
      obtain ⟨a, o, rfl, ha⟩ := hp
      have ha5 := e5 _ _ ha
      refine s_if (b := decide (optV o = .non)) (et_test (ev_op (ev_op (ev_var rfl) ev_c (rv_ixL (sq_of ha5) rfl)) ev_c rv_isNon)) (fun hb H6 e6 => ?_) (fun hb H6 e6 => ?_)
      · have ho : o = none := by
          cases o with
          | none => rfl
          | some v => cases hb
        subst ho
        exact s_when (b := !decide (V.non = V.non)) (et_test (ev_op (ev_op (ev_var rfl) ev_c (rv_ixL (sq_of (e6 _ _ ha5)) rfl)) ev_c rv_notNon)) (fun hb => by rw [decide_eq_true rfl] at hb; cases hb) (fun _ H7 e7 => ⟨e5.trans (e6.trans e7), _, rfl⟩)
      · obtain ⟨v, rfl⟩ : ∃ v, o = some v := by
          cases o with
          | none => rw [show decide (optV none = V.non) = true from decide_eq_true rfl] at hb; cases hb
          | some v => exact ⟨v, rfl⟩
        have ha6 := e6 _ _ ha5
        exact s_when (b := (!true || !decide (V.int v = V.int v))) (et_or (et_not (et_B (ev_call (ea_cons (ev_op (ev_var rfl) ev_c (rv_ixL (v := .int v) (sq_of ha6) rfl)) ea_nil) v_law_is_integer))) (fun _ => et_test (ev_op (ev_op (ev_var rfl) ev_c (rv_ixL (v := .int v) (sq_of ha6) rfl)) (ev_op (ev_var rfl) ev_c (rv_ixL (v := .int v) (sq_of ha6) rfl)) (rv_ne rfl)))) (fun hb => by rw [decide_eq_true rfl] at hb; cases hb) (fun _ H7 e7 => ⟨e5.trans (e6.trans e7), _, rfl⟩)
    · rintro σ' H5 ⟨e5, y, rfl⟩
      have hR5 := hR3.ex (e4.trans e5)
      have hA5 := hA3.ex (e4.trans e5)
      refine s_ret (v := .bl (decide (V.int s.m = V.int s.m) && decide (V.int s.k = V.int s.k))) (ev_andV (ev_op (ev_fld (ev_var rfl) hR5.1 T.cl_Translator T.na_Translator_m lk_m) (ev_dget (ev_var rfl) ev_c hA5.1 kl_m) (rv_eq rfl)) (fun _ => ev_op (ev_fld (ev_var rfl) hR5.1 T.cl_Translator T.na_Translator_k lk_k) (ev_dget (ev_var rfl) ev_c hA5.1 kl_k) (rv_eq rfl))) (fun H6 e6 => ?_)
      rw [decide_eq_true rfl, decide_eq_true rfl]
      exact k H6 (e13.trans (e4.trans (e5.trans e6)))

theorem fin_again (s : TS) (h : s.fi = true) : finT s = s := if_pos h
theorem fin_st (s : TS) (h : s.fi = false) : (finT s).st = true ∧ (finT s).fi = true := by
  unfold finT
  rw [if_neg (by rw [h]; exact Bool.false_ne_true)]
  exact ⟨rfl, rfl⟩
def sp_law (K : PySem.W.Frag) : Sp := fun vs H Q _ => ∃ (a : Addr) (ns : List Int), vs = [.ref a] ∧ SqL K H a (ns.map V.int) ∧ ns.length ≤ 63 ∧ ∀ H', Q (.bl true) H'
theorem ok_law (T : Txt K mg) : FnOk P w K mg base CX0 6 T.f_law T.d_law ["_law_script"] (sp_law K) := by
  refine T.F_law.ok sc_law (fun vs H Q E h => ?_) (fun cdv A outer s H vs Q E hr h => ?_)
  · obtain ⟨a, ns, rfl, _⟩ := h
    rfl
  · obtain ⟨a, ns, rfl, hS, hl, k⟩ := h
    refine ⟨_, (pss_cons (ps_set (i := 1) sc_law.nd rfl (Or.inl rfl) (pe_call (ok_law_draws T) (hr.mono (by decide)) (by rfl) T.g_law_draws T.F_law_draws.kp T.b_law_draws .nil pass0 (pa_cons (pv 0) pa_nil)))
        (pss_cons (ps_expr (pe_bm0 PySem.F.plainAttrs_list PySem.F.slot_list_reverse PySem.F.type_list_reverse mt_reverse (pv 1)))
        (pss_cons (ps_set (i := 2) sc_law.nd rfl (Or.inl rfl) (pe_call (ok_law_next T) (hr.mono (by decide)) (by rfl) T.g_law_next T.F_law_next.kp T.b_law_next .nil pass0 (pa_cons (pv 1) pa_nil)))
        (pss_cons (ps_set (i := 3) sc_law.nd rfl (Or.inl rfl) pe_int)
        (pss_cons (ps_set (i := 4) sc_law.nd rfl (Or.inl rfl) pe_int)
        (pss_cut (ps_if (pt_cmpR op_eq (pe_op op_modN (pe_callTy call_int1 (by rfl) T.n_int (by decide +kernel) (pa_cons (pv 2) pa_nil)) pe_int) pe_int (nomark _)) (pss_cons (ps_set (i := 3) sc_law.nd rfl (Or.inl rfl) (pe_op op_add pe_int (pe_callTy call_int1 (by rfl) T.n_int (by decide +kernel) (pa_cons (pe_call (ok_law_next T) (hr.mono (by decide)) (by rfl) T.g_law_next T.F_law_next.kp T.b_law_next .nil pass0 (pa_cons (pv 1) pa_nil)) pa_nil))))
        (pss_one (ps_set (i := 4) sc_law.nd rfl (Or.inl rfl) (pe_op op_add pe_int (pe_op op_modN (pe_op op_fdivN (pv 2) pe_int) pe_int))))) pss_nil)
        (pss_cut (ps_if (pt_cmpR op_eq (pe_op op_modN (pe_callTy call_int1 (by rfl) T.n_int (by decide +kernel) (pa_cons (pv 2) pa_nil)) pe_int) pe_int (nomark _)) (pss_cons (ps_set (i := 3) sc_law.nd rfl (Or.inl rfl) (pe_op op_sub (pe_un un_neg pe_int) (pe_op op_modN (pe_callTy call_int1 (by rfl) T.n_int (by decide +kernel) (pa_cons (pe_call (ok_law_next T) (hr.mono (by decide)) (by rfl) T.g_law_next T.F_law_next.kp T.b_law_next .nil pass0 (pa_cons (pv 1) pa_nil)) pa_nil)) pe_int)))
        (pss_one (ps_set (i := 4) sc_law.nd rfl (Or.inl rfl) (pe_op op_sub (pe_un un_neg pe_int) (pe_op op_modN (pe_op op_fdivN (pv 2) pe_int) pe_int))))) pss_nil)
        (pss_cons (ps_set (i := 5) sc_law.nd rfl (Or.inl rfl) (pe_call (ok_law_program T) (hr.mono (by decide)) (by rfl) T.g_law_program T.F_law_program.kp T.b_law_program .nil pass0 (pa_cons (pv 1) (pa_cons pe_int pa_nil))))
        (pss_cons (ps_set (i := 6) sc_law.nd rfl (Or.inl rfl) (pe_disp (pps_cons pe_str (pe_lst (pa_cons pe_int (pa_cons pe_int (pa_cons pe_int (pa_cons (pv 3) pa_nil))))) (pps_cons pe_str (pv 3) (pps_cons pe_str (pe_op op_add (pv 3) (pv 4)) (pps_cons pe_str (pv 4) (pps_cons pe_str (pe_lst pa_nil) pps_nil))))) (by rfl) (by rfl) (fun z => by cases z) (by decide)))
        (pss_cons (ps_dput (hu_of hr) (pv 6) pe_str pe_non rfl)
        (pss_cons (ps_dput (hu_of hr) (pv 6) pe_str pe_non rfl)
        (pss_cons (ps_dput (hu_of hr) (pv 6) pe_str pe_bl rfl)
        (pss_cons (ps_set (i := 7) sc_law.nd rfl (Or.inl rfl) (pe_call (ok_law_made T) (hr.mono (by decide)) (by rfl) T.g_law_made T.F_law_made.kp T.b_law_made .nil pass0 (pa_cons (pv 3) (pa_cons (pv 4) (pa_cons (pv 2) pa_nil)))))
        (pss_cons (ps_if (pt_not (pt_val (pe_call (ok_law_agrees T) (hr.mono (by decide)) (by rfl) T.g_law_agrees T.F_law_agrees.kp T.b_law_agrees .nil pass0 (pa_cons (pv 7) (pa_cons (pv 6) pa_nil))))) (pss_one (ps_ret pe_bl)) pss_nil)
        (pss_cons (ps_for PassesOwn.never rfl (pi_list (pv 5)) (pg_name (i := 8) sc_law.nd rfl (Or.inl rfl)) (pss_cons (ps_expr (pe_meth (pv 7) T.cl_Translator T.m_Translator_take (ok_Translator_take T) (hr.mono (by decide)) T.b_Translator_take .nil pass0 (pa_cons (pv 8) pa_nil)))
        (pss_cons (ps_expr (pe_call (ok_law_follow T) (hr.mono (by decide)) (by rfl) T.g_law_follow T.F_law_follow.kp T.b_law_follow .nil pass0 (pa_cons (pv 6) (pa_cons (pv 8) pa_nil))))
        (pss_one (ps_if (pt_not (pt_val (pe_call (ok_law_agrees T) (hr.mono (by decide)) (by rfl) T.g_law_agrees T.F_law_agrees.kp T.b_law_agrees .nil pass0 (pa_cons (pv 7) (pa_cons (pv 6) pa_nil))))) (pss_one (ps_ret pe_bl)) pss_nil)))))
        (pss_cons (ps_set (i := 9) sc_law.nd rfl (Or.inl rfl) (pe_call (ok_law_translate T) (hr.mono (by decide)) (by rfl) T.g_law_translate T.F_law_translate.kp T.b_law_translate .nil pass0 (pa_cons (pv 5) (pa_cons (pv 3) (pa_cons (pv 4) pa_nil)))))
        (pss_cons (ps_set (i := 10) sc_law.nd rfl (Or.inl rfl) (pe_meth0 (pv 7) T.cl_Translator T.m_Translator_finish (ok_Translator_finish T) (hr.mono (by decide)) T.b_Translator_finish .nil pass0))
        (pss_cons (ps_if (PW.pt (pw_or (pt_not (pt_val (pe_call (ok_law_is_integers T) (hr.mono (by decide)) (by rfl) T.g_law_is_integers T.F_law_is_integers.kp T.b_law_is_integers .nil pass0 (pa_cons (pv 10) pa_nil)))) (pw_or1 (pt_cmpR (op_neD hr.units) (pv 10) (pv 9) (nomark _))))) (pss_one (ps_ret pe_bl)) pss_nil)
        (pss_cons (ps_expr (pe_bm PySem.F.plainAttrs_list PySem.F.slot_list_append PySem.F.type_list_append mt_append (pv 10) (pa_cons pe_int pa_nil)))
        (pss_cons (ps_expr (pe_meth (pv 7) T.cl_Translator T.m_Translator_take (ok_Translator_take T) (hr.mono (by decide)) T.b_Translator_take .nil pass0 (pa_cons pe_int pa_nil)))
        (pss_cons (ps_expr (pe_meth (pv 7) T.cl_Translator T.m_Translator_take (ok_Translator_take T) (hr.mono (by decide)) T.b_Translator_take .nil pass0 (pa_cons pe_int pa_nil)))
        (pss_cons (ps_set (i := 11) sc_law.nd rfl (Or.inl rfl) (pe_meth0 (pv 7) T.cl_Translator T.m_Translator_finish (ok_Translator_finish T) (hr.mono (by decide)) T.b_Translator_finish .nil pass0))
        (pss_one (ps_ret (pe_and (pe_call (ok_law_is_integers T) (hr.mono (by decide)) (by rfl) T.g_law_is_integers T.F_law_is_integers.kp T.b_law_is_integers .nil pass0 (pa_cons (pv 11) pa_nil)) (pe_one (pe_cmpR (op_eqD hr.units) (pv 11) (pv 9) (nomark _)))))))))))))))))))))))))))), ?_⟩
    refine ⟨_, rfl, a, ns, rfl, hS, hl, fun p H1 hp e1 hD1 => ?_⟩
    obtain ⟨ds, hd1, hs1, hlen1⟩ := hD1
    refine q_rev hd1 (ev_var rfl) (fun H2 e2 => ?_)
    have hD2 : Drw p (upd H2 p (.lst (ds.map V.int).reverse)) := ⟨ds.reverse, by rw [upd_same, List.map_reverse], fun d h => hs1 d (List.mem_reverse.mp h), by rw [List.length_reverse]; exact hlen1⟩
    generalize upd H2 p (.lst (ds.map V.int).reverse) = H2 at hD2
    -- choice
    refine q_asgP (ep_next rfl hD2) (fun v H3 hv => ?_)
    obtain ⟨ch, rfl, hch, hD3, _⟩ := hv
    refine q_asg ev_c (fun H4 e4 => ?_)
    refine q_asg ev_c (fun H5 e5 => ?_)
    have hD5 := hD3.ex (e4.trans e5)
    have par : ∀ r : Int, ch.fmod 4 = r → ch.fmod 2 = r.fmod 2 := fun r h => by
      rw [Int.fmod_eq_emod_of_nonneg _ (by decide)] at h
      rw [Int.fmod_eq_emod_of_nonneg _ (by decide), Int.fmod_eq_emod_of_nonneg _ (by decide)]
      omega
    refine q_cut (M := fun σ' H' => Drw p H' ∧ ∃ f b : Int, (ch.fmod 2 = 0 → f = 200 ∧ b = 1) ∧ σ' = [some (.ref a), some (.ref p), some (.int ch), some (.int f), some (.int b), none, none, none, none, none, none, none]) ?_ ?_
    · refine s_when (b := decide (ch.fmod 4 = 1)) (et_test (ev_op (ev_op (ev_cb (ea_cons (ev_var rfl) ea_nil) rc_int) ev_c (rv_mod (by decide))) ev_c rv_eqI)) (fun hb H6 e6 => ?_) (fun hb H6 e6 => ?_)
      · refine q_asgP (P := fun v H' => ∃ f : Int, v = .int f ∧ Drw p H') (fun Q q => ep_next (p := p) rfl (hD5.ex e6) _ fun v H7 hv => ?_) (fun v H7 hv => ?_)
        · obtain ⟨d, rfl, _, hD7, _⟩ := hv
          exact .inl ⟨d, rfl, _, _, rfl, rfl, q _ H7 ⟨_, rfl, hD7⟩⟩
        · obtain ⟨f, rfl, hD7⟩ := hv
          exact s_asg (ev_op ev_c (ev_op (ev_op (ev_var rfl) ev_c (rv_fdiv (by decide) (by decide))) ev_c (rv_mod (by decide))) rv_I0) (fun H8 e8 => ⟨hD7.ex e8, f, _, fun h => absurd h (by rw [par 1 (of_decide_eq_true hb)]; decide), rfl⟩)
      · exact ⟨hD5.ex e6, 200, 1, fun _ => ⟨rfl, rfl⟩, rfl⟩
    rintro σ' H6 ⟨hD6, f1, b1, hfb1, rfl⟩
    refine q_cut (M := fun σ' H' => Drw p H' ∧ ∃ f b : Int, (ch.fmod 2 = 0 → f = 200 ∧ b = 1) ∧ σ' = [some (.ref a), some (.ref p), some (.int ch), some (.int f), some (.int b), none, none, none, none, none, none, none]) ?_ ?_
    · refine s_when (b := decide (ch.fmod 4 = 3)) (et_test (ev_op (ev_op (ev_cb (ea_cons (ev_var rfl) ea_nil) rc_int) ev_c (rv_mod (by decide))) ev_c rv_eqI)) (fun hb H7 e7 => ?_) (fun hb H7 e7 => ?_)
      · refine q_asgP (P := fun v H' => ∃ f : Int, v = .int f ∧ Drw p H') (fun Q q => ?_) (fun v H8 hv => ?_)
        · refine ⟨_, rfl, ?_⟩
          refine ep_next (p := p) rfl (hD6.ex e7) _ fun v H8 hv => ?_
          obtain ⟨d, rfl, _, hD8, _⟩ := hv
          exact .inl ⟨d, rfl, _, _, rfl, rfl, (by show (50 : Int) ≠ 0; decide), _, _, rfl, rfl, q _ H8 ⟨_, rfl, hD8⟩⟩
        · obtain ⟨f, rfl, hD8⟩ := hv
          exact s_asg (ev_op (ev_un ev_c ru_neg) (ev_op (ev_op (ev_var rfl) ev_c (rv_fdiv (by decide) (by decide))) ev_c (rv_mod (by decide))) rv_I0) (fun H9 e9 => ⟨hD8.ex e9, f, _, fun h => absurd h (by rw [par 3 (of_decide_eq_true hb)]; decide), rfl⟩)
      · exact ⟨hD6.ex e7, f1, b1, hfb1, rfl⟩
    rintro σ' H7 ⟨hD7, f, b, hfb, rfl⟩
    -- codes
    refine q_asgP (ep_program (m := 60) rfl hD7 (by decide)) (fun v H8 hv => ?_)
    obtain ⟨q, cs, rfl, nq, b8, hD8, hq, hcl⟩ := hv
    clear hD8 b8 hD7 hD5 hD3 hD2
    -- state
    refine q_asgP (P := BegT H8 f b) (fun Q q => ?_) (fun v H9 hv => ?_)
    · intro d hd
      refine ⟨_, rfl, (by show 4 ≤ sizeLine; exact sz_of (by decide)), fun zi hzi => ⟨_, rfl, _, rfl, _, rfl, f, b, rfl, rfl, _, rfl, (by show 0 ≤ sizeLine; exact Nat.zero_le _), fun zp hzp => ?_⟩⟩
      have nid : zi ≠ d := fun e => by rw [e, upd_same] at hzi; cases hzi
      have npi : zp ≠ zi := fun e => by rw [e, upd_same] at hzp; cases hzp
      have npd : zp ≠ d := fun e => by rw [e, upd_ne (Ne.symm nid), upd_same] at hzp; cases hzp
      rw [upd_ne nid] at hzi
      rw [upd_ne npi, upd_ne npd] at hzp
      refine ⟨by rw [upd_ne (Ne.symm npd), upd_ne (Ne.symm nid)]; exact upd_same, KVs (t0 f b) zi zp, rfl, by show 5 ≤ 15; decide, ?_⟩
      refine q _ _ ⟨d, zi, zp, rfl, hd, hzi, hzp, ⟨upd_same, ?_, ?_, Ne.symm npi⟩, fun c o e => ?_⟩
      · rw [upd_ne nid, upd_ne (Ne.symm npi)]
        exact upd_same
      · rw [upd_ne npd]
        exact upd_same
      · rw [upd_ne (ne_of_none e hd), upd_ne (ne_of_none e hzp), upd_ne (ne_of_none e hzi), upd_ne (ne_of_none e hd)]
        exact e
    obtain ⟨d, zi, zp, rfl, nd, ni, np, hA9, e9⟩ := hv
    have hq9 := e9 _ _ hq
    have ndi := hA9.ni
    have ndp := hA9.np
    refine q_dput (k := .inr "numeral") ev_c (ev_var rfl) ev_c hA9.1 (kv_len hA9) (fun H10 e10 => ?_)
    refine q_dput (k := .inr "waiting") ev_c (ev_var rfl) ev_c upd_same (by show 6 < 1000; decide) (fun H11 e11 => ?_)
    refine q_dput (k := .inr "over") ev_c (ev_var rfl) ev_c upd_same (by show 7 < 1000; decide) (fun H12 e12 => ?_)
    have keep : ∀ c o, c ≠ d → H9 c = some o → H12 c = some o := fun c o n h => e12 _ _ (by rw [upd_ne n]; exact e11 _ _ (by rw [upd_ne n]; exact e10 _ _ h))
    have hA12 : DA (upd H12 d (.dK (KVs (wx (t0 f b)) zi zp))) d zi zp (wx (t0 f b)) := ⟨upd_same, by rw [upd_ne ndi]; exact keep _ _ ndi hA9.2.1, by rw [upd_ne ndp]; exact keep _ _ ndp hA9.2.2.1, hA9.2.2.2⟩
    have nqd : q ≠ d := ne_of_none hq nd
    have hq12 : (upd H12 d (.dK (KVs (wx (t0 f b)) zi zp))) q = some (.lst (cs.map V.int)) := by rw [upd_ne nqd]; exact keep _ _ nqd hq9
    have nqD : q ∉ [d, zi, zp] := by simp [nqd, ne_of_none hq ni, ne_of_none hq np]
    refine q_asgP (P := NewT T.C_Translator (upd H12 d (.dK (KVs (wx (t0 f b)) zi zp))) f b) (ep_made hfb (ea_cons (ev_var rfl) (ea_cons (ev_var rfl) (ea_cons (ev_var rfl) ea_nil)))) (fun v H13 hv => ?_)
    obtain ⟨x, dx, qi, qp, rfl, nx, nqi, nqp, hR13, e13⟩ := hv
    generalize upd H12 d (.dK (KVs (wx (t0 f b)) zi zp)) = HB at hA12 hq12 nx nqi nqp e13
    have hA13 := hA12.ex e13
    have hq13 := e13 _ _ hq12
    have nqX : q ∉ [x, qi, qp] := by simp [ne_of_none hq12 nx, ne_of_none hq12 nqi, ne_of_none hq12 nqp]
    -- the two are apart
    have a1 : d ∉ [x, qi, qp] := by simp [ne_of_none hA12.1 nx, ne_of_none hA12.1 nqi, ne_of_none hA12.1 nqp]
    have a2 : zi ∉ [x, qi, qp] := by simp [ne_of_none hA12.2.1 nx, ne_of_none hA12.2.1 nqi, ne_of_none hA12.2.1 nqp]
    have a3 : zp ∉ [x, qi, qp] := by simp [ne_of_none hA12.2.2.1 nx, ne_of_none hA12.2.2.1 nqi, ne_of_none hA12.2.2.1 nqp]
    have c1 : x ∉ [d, zi, zp] := by simp [Ne.symm (ne_of_none hA12.1 nx), Ne.symm (ne_of_none hA12.2.1 nx), Ne.symm (ne_of_none hA12.2.2.1 nx)]
    have c2 : qi ∉ [d, zi, zp] := by simp [Ne.symm (ne_of_none hA12.1 nqi), Ne.symm (ne_of_none hA12.2.1 nqi), Ne.symm (ne_of_none hA12.2.2.1 nqi)]
    have c3 : qp ∉ [d, zi, zp] := by simp [Ne.symm (ne_of_none hA12.1 nqp), Ne.symm (ne_of_none hA12.2.1 nqp), Ne.symm (ne_of_none hA12.2.2.1 nqp)]
    refine q_when (b := !true) (et_not (et_B (ev_call (ea_cons (ev_var rfl) (ea_cons (ev_var rfl) ea_nil)) (v_agrees hR13 hA13)))) (fun hb => nomatch hb) (fun _ H14 e14 => ?_)
    have hq14 := e14 _ _ hq13
    refine q_forLn (ev_var rfl) (sq_of hq14) (fun i σ' H' => RA T.C_Translator H' x dx qi qp ((cs.take i).foldl takeT (t0 f b)) ∧ DA H' d zi zp (wx ((cs.take i).foldl takeT (t0 f b))) ∧ wOK ((cs.take i).foldl takeT (t0 f b)) ∧ H' q = some (.lst (cs.map V.int)) ∧ ∃ y, σ' = [some (.ref a), some (.ref p), some (.int ch), some (.int f), some (.int b), some (.ref q), some (.ref d), some (.ref x), y, none, none, none]) ?_ ?_ ?_ ?_
    · intro H15 e15
      exact ⟨hR13.ex (e14.trans e15), hA13.ex (e14.trans e15), (by intro w h; cases h), e15 _ _ hq14, none, rfl⟩
    · rintro i σ' H' _ ⟨_, _, _, hq', _⟩
      exact sq_of hq'
    · rintro i c' σ' H' hx ⟨hR, hA, hwk, hq', y, rfl⟩
      obtain ⟨c, hc, rfl⟩ := map_at hx
      have hlen := run_len (cs.take i) (t0 f b)
      rw [List.length_take] at hlen
      have h4 : (t0 f b).im.length = 4 := rfl
      have h0 : (t0 f b).pl.length = 0 := rfl
      rw [foldl_snoc hc]
      generalize (cs.take i).foldl takeT (t0 f b) = s at hR hA hwk hlen
      refine q_dropP (ep_T c (ev_var rfl) hR (by omega) (by omega) (ea_cons (ev_var rfl) ea_nil)) (fun v H15 h15 => ?_)
      obtain ⟨_, hR15, b15⟩ := h15
      have hA15 : DA H15 d zi zp (wx s) := ⟨b15 _ _ a1 hA.1, b15 _ _ a2 hA.2.1, b15 _ _ a3 hA.2.2.1, hA.2.2.2⟩
      refine q_dropP (ep_follow hA15 hwk (by omega) (by omega) (ea_cons (ev_var rfl) (ea_cons (ev_var rfl) ea_nil))) (fun v H16 h16 => ?_)
      obtain ⟨_, hA16, b16⟩ := h16
      have hR16 := hR15.bu b16 c1 c2 c3
      exact s_when (b := !true) (et_not (et_B (ev_call (ea_cons (ev_var rfl) (ea_cons (ev_var rfl) ea_nil)) (v_agrees hR16 hA16)))) (fun hb => nomatch hb) (fun _ H17 e17 => ⟨hR16.ex e17, hA16.ex e17, take_wok2 hwk, e17 _ _ (b16 _ _ nqD (b15 _ _ nqX hq')), _, rfl⟩)
    · rintro σ' H15 ⟨hR15, _, _, hq15, y, rfl⟩
      rw [List.length_map, List.take_length] at hR15
      have hlen := run_len cs (t0 f b)
      have h4 : (t0 f b).im.length = 4 := rfl
      have h0 : (t0 f b).pl.length = 0 := rfl
      have himg : imgT cs f b = (finT (cs.foldl takeT (t0 f b))).im := rfl
      have hfi : (cs.foldl takeT (t0 f b)).fi = false := hlen.2.2
      obtain ⟨hst2, hfi2⟩ := fin_st _ hfi
      have hel := endN_len (cs.foldl takeT (t0 f b))
      have hlf : (finT (cs.foldl takeT (t0 f b))).im.length ≤ 50000 ∧ (finT (cs.foldl takeT (t0 f b))).pl.length ≤ 50000 := by
        have h3 := em_len (endN (cs.foldl takeT (t0 f b))) 41 0
        unfold finT
        rw [if_neg (by rw [hfi]; exact Bool.false_ne_true)]
        exact ⟨by show (emT (endN (cs.foldl takeT (t0 f b))) 41 0).im.length ≤ 50000; omega, by show (emT (endN (cs.foldl takeT (t0 f b))) 41 0).pl.length ≤ 50000; omega⟩
      rw [himg.symm] at hlf
      -- due
      refine q_asgL (el_call (ea_cons (ev_var rfl) (ea_cons (ev_var rfl) (ea_cons (ev_var rfl) ea_nil))) (l_law_translate hq15 (by omega))) (fun u H16 hu16 e16 d16 => ?_)
      have hR16 := hR15.ex e16
      have nuX : u ∉ [x, qi, qp] := by simp [Ne.symm (ne_of_none hR15.1 hu16), Ne.symm (ne_of_none hR15.2.1 hu16), Ne.symm (ne_of_none hR15.2.2.1 hu16)]
      -- actual
      refine q_asgP (ep_finish (ev_var rfl) hR16 (by omega) (by omega)) (fun v H17 hv => ?_)
      obtain ⟨w1, rfl, nw1, d17, hR17, b17⟩ := hv
      rw [← himg] at d17
      have hu17 := b17 _ _ nuX d16
      have nw : w1 ∉ [x, qi, qp] := by simp [Ne.symm (ne_of_none hR16.1 nw1), Ne.symm (ne_of_none hR16.2.1 nw1), Ne.symm (ne_of_none hR16.2.2.1 nw1)]
      have nuw : u ≠ w1 := ne_of_none d16 nw1
      refine q_when (b := (!true || !decide (imgT cs f b = imgT cs f b))) (et_or (et_not (et_B (ev_call (ea_cons (ev_var rfl) ea_nil) (v_law_is_integers d17)))) (fun _ => et_test (ev_op (ev_var rfl) (ev_var rfl) (rv_neL (sq_of d17) (sq_of hu17))))) (fun hb => by rw [decide_eq_true rfl] at hb; cases hb) (fun _ H18 e18 => ?_)
      refine q_app (e18 _ _ d17) (ev_var rfl) ev_c (by rw [List.length_map]; omega) (fun H19 e19 => ?_)
      have hR19 : RA T.C_Translator (upd H19 w1 (.lst ((imgT cs f b).map V.int ++ [V.int 5]))) x dx qi qp (finT (cs.foldl takeT (t0 f b))) := (hR17.ex (e18.trans e19)).bu (L := [w1]) ((Bu.refl).upd (.inl (by simp))) (by simp only [List.mem_singleton]; intro h; exact nw (by rw [← h]; simp)) (by simp only [List.mem_singleton]; intro h; exact nw (by rw [← h]; simp)) (by simp only [List.mem_singleton]; intro h; exact nw (by rw [← h]; simp))
      have hu19 : (upd H19 w1 (.lst ((imgT cs f b).map V.int ++ [V.int 5]))) u = some (.lst ((imgT cs f b).map V.int)) := by rw [upd_ne nuw]; exact e19 _ _ (e18 _ _ hu17)
      generalize upd H19 w1 (.lst ((imgT cs f b).map V.int ++ [V.int 5])) = H19 at hR19 hu19
      have himg2 : imgT cs f b = (finT (cs.foldl takeT (t0 f b))).im := rfl
      generalize finT (cs.foldl takeT (t0 f b)) = s2 at *
      have stay : ∀ c, takeT s2 c = s2 := fun c => if_pos hst2
      refine q_dropP (ep_T 43 (ev_var rfl) hR19 (by rw [← himg2]; omega) (by omega) (ea_cons ev_c ea_nil)) (fun v H20 h20 => ?_)
      obtain ⟨_, hR20, b20⟩ := h20
      simp only [stay] at hR20
      refine q_dropP (ep_T 49 (ev_var rfl) hR20 (by rw [← himg2]; omega) (by omega) (ea_cons ev_c ea_nil)) (fun v H21 h21 => ?_)
      obtain ⟨_, hR21, b21⟩ := h21
      simp only [stay] at hR21
      have hu21 := b21 _ _ nuX (b20 _ _ nuX hu19)
      refine q_asgP (ep_finish (ev_var rfl) hR21 (by rw [← himg2]; omega) (by omega)) (fun v H22 hv => ?_)
      obtain ⟨w2, rfl, nw2, d22, hR22, b22⟩ := hv
      rw [fin_again s2 hfi2, ← himg2] at d22
      have hu22 := b22 _ _ nuX hu21
      refine s_ret (v := .bl (true && decide (imgT cs f b = imgT cs f b))) (ev_andV (ev_call (ea_cons (ev_var rfl) ea_nil) (v_law_is_integers d22)) (fun _ => ev_op (ev_var rfl) (ev_var rfl) (rv_eqL (sq_of d22) (sq_of hu22)))) (fun H23 _ => ?_)
      rw [decide_eq_true rfl]
      exact k H23
theorem law_at (K : PySem.W.Frag) (H : Hp) (a : Addr) (ns : List Int) (hl : ns.length ≤ 63) (hO : Only H) (hS : SqL K H a (ns.map V.int)) : sp_law K [.ref a] H (fun v _ => v = .bl true) fun _ _ _ => False := ⟨a, ns, rfl, hS, hl, fun _ => rfl⟩
end
/-! ### the head's facts -/
theorem mk_txt {K : PySem.W.Frag} {h : Heap} {mg : Str → Option Value} {p1 p2 p3 p4 p5 p6 p7 p8 kD9 p9 p10 p11 p12 p13 p14 p15 p16 p17 p18 p19 p20 p21 p22 p23 p24 p25 p26 p27 p28 p29 p30 p31 p32 p33 p34 p35 C_Translator D_BRACKETS : Addr} (X : K.In h) (G : h.Ns mainGlobals mg)
    {tq9_first tq9_by t_BRANCH t_COLON t_NOP t_PUSH t_QUOTE t_RETURN t_SET t_SPACE : Tok}
    {od1 an1 od2 an2 od3 an3 od4 an4 od5 an5 od6 an6 od7 an7 od8 an8 od9 an9 od10 an10 od11 an11 od12 an12 od13 an13 od14 an14 od15 an15 od16 an16 od17 an17 od18 an18 od19 an19 od20 an20 od21 an21 od22 an22 od23 an23 od24 an24 od25 an25 od26 an26 od27 an27 od28 an28 od29 an29 od30 an30 od31 an31 od32 an32 od33 an33 od34 an34 od35 an35 : Option Addr} {sl1 sl2 sl3 sl4 sl5 sl6 sl7 sl8 sl9 sl10 sl11 sl12 sl13 sl14 sl15 sl16 sl17 sl18 sl19 sl20 sl21 sl22 sl23 sl24 sl25 sl26 sl27 sl28 sl29 sl30 sl31 sl32 sl33 sl34 sl35 : Array (Option Value)}
    {es_BRACKETS : Array DictEntry} {nn_BRACKETS : Nat}
    {oc1 kV1 dc1 pm1 cd1 ct1 oc2 kV2 dc2 pm2 cd2 ct2 oc3 kV3 dc3 pm3 cd3 ct3 oc4 kV4 dc4 pm4 cd4 ct4 oc5 kV5 dc5 pm5 cd5 ct5 oc6 kV6 dc6 pm6 cd6 ct6 oc7 kV7 dc7 pm7 cd7 ct7 oc8 kV8 dc8 pm8 cd8 ct8 oc9 dc9 pm9 cd9 ct9 oc10 kV10 dc10 pm10 cd10 ct10 oc11 kV11 dc11 pm11 cd11 ct11 oc12 kV12 dc12 pm12 cd12 ct12 oc13 kV13 dc13 pm13 cd13 ct13 oc14 kV14 dc14 pm14 cd14 ct14 oc15 kV15 dc15 pm15 cd15 ct15 oc16 kV16 dc16 pm16 cd16 ct16 oc17 kV17 dc17 pm17 cd17 ct17 oc18 kV18 dc18 pm18 cd18 ct18 oc19 kV19 dc19 pm19 cd19 ct19 oc20 kV20 dc20 pm20 cd20 ct20 oc21 kV21 dc21 pm21 cd21 ct21 oc22 kV22 dc22 pm22 cd22 ct22 oc23 kV23 dc23 pm23 cd23 ct23 oc24 kV24 dc24 pm24 cd24 ct24 oc25 kV25 dc25 pm25 cd25 ct25 oc26 kV26 dc26 pm26 cd26 ct26 oc27 kV27 dc27 pm27 cd27 ct27 oc28 kV28 dc28 pm28 cd28 ct28 oc29 kV29 dc29 pm29 cd29 ct29 oc30 kV30 dc30 pm30 cd30 ct30 oc31 kV31 dc31 pm31 cd31 ct31 oc32 kV32 dc32 pm32 cd32 ct32 oc33 kV33 dc33 pm33 cd33 ct33 oc34 kV34 dc34 pm34 cd34 ct34 oc35 kV35 dc35 pm35 cd35 ct35 : Value}
    (g_Translator : PySem.W.nsIn K mainGlobals "Translator" = some (some (.ref C_Translator)))
    (a1 : PySem.W.nsIn K mainGlobals "is_digit" = some (some (.ref p1)))
    (l1 : K.lookup p1 = some ⟨oc1, od1, .func (PySem.W.fnOf "is_digit" "is_digit" (defArgs s_is_digit) (defBody s_is_digit) (defScope s_is_digit) .none kV1 dc1 pm1 an1 cd1 ct1), sl1⟩)
    (c1 : PySem.W.codeIn K cd1 "is_digit" = true)
    (k1 : PySem.W.keepIn K (.ref p1) = true)
    (a2 : PySem.W.nsIn K mainGlobals "with_digit" = some (some (.ref p2)))
    (l2 : K.lookup p2 = some ⟨oc2, od2, .func (PySem.W.fnOf "with_digit" "with_digit" (defArgs s_with_digit) (defBody s_with_digit) (defScope s_with_digit) .none kV2 dc2 pm2 an2 cd2 ct2), sl2⟩)
    (c2 : PySem.W.codeIn K cd2 "with_digit" = true)
    (k2 : PySem.W.keepIn K (.ref p2) = true)
    (a3 : PySem.W.nsIn K mainGlobals "_begin_choice" = some (some (.ref p3)))
    (l3 : K.lookup p3 = some ⟨oc3, od3, .func (PySem.W.fnOf "_begin_choice" "_begin_choice" (defArgs s_begin_choice) (defBody s_begin_choice) (defScope s_begin_choice) .none kV3 dc3 pm3 an3 cd3 ct3), sl3⟩)
    (c3 : PySem.W.codeIn K cd3 "_begin_choice" = true)
    (k3 : PySem.W.keepIn K (.ref p3) = true)
    (a4 : PySem.W.nsIn K mainGlobals "_turn_choice" = some (some (.ref p4)))
    (l4 : K.lookup p4 = some ⟨oc4, od4, .func (PySem.W.fnOf "_turn_choice" "_turn_choice" (defArgs s_turn_choice) (defBody s_turn_choice) (defScope s_turn_choice) .none kV4 dc4 pm4 an4 cd4 ct4), sl4⟩)
    (c4 : PySem.W.codeIn K cd4 "_turn_choice" = true)
    (k4 : PySem.W.keepIn K (.ref p4) = true)
    (a5 : PySem.W.nsIn K mainGlobals "_end_choice" = some (some (.ref p5)))
    (l5 : K.lookup p5 = some ⟨oc5, od5, .func (PySem.W.fnOf "_end_choice" "_end_choice" (defArgs s_end_choice) (defBody s_end_choice) (defScope s_end_choice) .none kV5 dc5 pm5 an5 cd5 ct5), sl5⟩)
    (c5 : PySem.W.codeIn K cd5 "_end_choice" = true)
    (k5 : PySem.W.keepIn K (.ref p5) = true)
    (a6 : PySem.W.nsIn K mainGlobals "_begin_loop" = some (some (.ref p6)))
    (l6 : K.lookup p6 = some ⟨oc6, od6, .func (PySem.W.fnOf "_begin_loop" "_begin_loop" (defArgs s_begin_loop) (defBody s_begin_loop) (defScope s_begin_loop) .none kV6 dc6 pm6 an6 cd6 ct6), sl6⟩)
    (c6 : PySem.W.codeIn K cd6 "_begin_loop" = true)
    (k6 : PySem.W.keepIn K (.ref p6) = true)
    (a7 : PySem.W.nsIn K mainGlobals "_end_loop" = some (some (.ref p7)))
    (l7 : K.lookup p7 = some ⟨oc7, od7, .func (PySem.W.fnOf "_end_loop" "_end_loop" (defArgs s_end_loop) (defBody s_end_loop) (defScope s_end_loop) .none kV7 dc7 pm7 an7 cd7 ct7), sl7⟩)
    (c7 : PySem.W.codeIn K cd7 "_end_loop" = true)
    (k7 : PySem.W.keepIn K (.ref p7) = true)
    (a8 : PySem.W.nsIn K mainGlobals "_end_definition" = some (some (.ref p8)))
    (l8 : K.lookup p8 = some ⟨oc8, od8, .func (PySem.W.fnOf "_end_definition" "_end_definition" (defArgs s_end_definition) (defBody s_end_definition) (defScope s_end_definition) .none kV8 dc8 pm8 an8 cd8 ct8), sl8⟩)
    (c8 : PySem.W.codeIn K cd8 "_end_definition" = true)
    (k8 : PySem.W.keepIn K (.ref p8) = true)
    (a9 : PySem.W.findIn K (.ref C_Translator) "__init__" = some (some (.ref p9)))
    (i9 : PySem.W.isFn K (.ref p9) = true)
    (l9 : K.lookup p9 = some ⟨oc9, od9, .func (PySem.W.fnOf "__init__" "Translator.__init__" (defArgs s_Translator_init) (defBody s_Translator_init) (defScope s_Translator_init) .none (.ref kD9) dc9 pm9 an9 cd9 ct9), sl9⟩)
    (q9_first : PySem.W.nsIn K kD9 "first" = some (some (.int 200 tq9_first)))
    (q9_by : PySem.W.nsIn K kD9 "by" = some (some (.int 1 tq9_by)))
    (c9 : PySem.W.codeIn K cd9 "Translator.__init__" = true)
    (k9 : PySem.W.keepIn K (.ref p9) = true)
    (a10 : PySem.W.findIn K (.ref C_Translator) "popped" = some (some (.ref p10)))
    (i10 : PySem.W.isFn K (.ref p10) = true)
    (l10 : K.lookup p10 = some ⟨oc10, od10, .func (PySem.W.fnOf "popped" "Translator.popped" (defArgs s_Translator_popped) (defBody s_Translator_popped) (defScope s_Translator_popped) .none kV10 dc10 pm10 an10 cd10 ct10), sl10⟩)
    (c10 : PySem.W.codeIn K cd10 "Translator.popped" = true)
    (k10 : PySem.W.keepIn K (.ref p10) = true)
    (a11 : PySem.W.findIn K (.ref C_Translator) "taken_number" = some (some (.ref p11)))
    (i11 : PySem.W.isFn K (.ref p11) = true)
    (l11 : K.lookup p11 = some ⟨oc11, od11, .func (PySem.W.fnOf "taken_number" "Translator.taken_number" (defArgs s_Translator_taken_number) (defBody s_Translator_taken_number) (defScope s_Translator_taken_number) .none kV11 dc11 pm11 an11 cd11 ct11), sl11⟩)
    (c11 : PySem.W.codeIn K cd11 "Translator.taken_number" = true)
    (k11 : PySem.W.keepIn K (.ref p11) = true)
    (a12 : PySem.W.findIn K (.ref C_Translator) "append_node" = some (some (.ref p12)))
    (i12 : PySem.W.isFn K (.ref p12) = true)
    (l12 : K.lookup p12 = some ⟨oc12, od12, .func (PySem.W.fnOf "append_node" "Translator.append_node" (defArgs s_Translator_append_node) (defBody s_Translator_append_node) (defScope s_Translator_append_node) .none kV12 dc12 pm12 an12 cd12 ct12), sl12⟩)
    (c12 : PySem.W.codeIn K cd12 "Translator.append_node" = true)
    (k12 : PySem.W.keepIn K (.ref p12) = true)
    (a13 : PySem.W.findIn K (.ref C_Translator) "emit" = some (some (.ref p13)))
    (i13 : PySem.W.isFn K (.ref p13) = true)
    (l13 : K.lookup p13 = some ⟨oc13, od13, .func (PySem.W.fnOf "emit" "Translator.emit" (defArgs s_Translator_emit) (defBody s_Translator_emit) (defScope s_Translator_emit) .none kV13 dc13 pm13 an13 cd13 ct13), sl13⟩)
    (c13 : PySem.W.codeIn K cd13 "Translator.emit" = true)
    (k13 : PySem.W.keepIn K (.ref p13) = true)
    (a14 : PySem.W.findIn K (.ref C_Translator) "take" = some (some (.ref p14)))
    (i14 : PySem.W.isFn K (.ref p14) = true)
    (l14 : K.lookup p14 = some ⟨oc14, od14, .func (PySem.W.fnOf "take" "Translator.take" (defArgs s_Translator_take) (defBody s_Translator_take) (defScope s_Translator_take) .none kV14 dc14 pm14 an14 cd14 ct14), sl14⟩)
    (c14 : PySem.W.codeIn K cd14 "Translator.take" = true)
    (k14 : PySem.W.keepIn K (.ref p14) = true)
    (a15 : PySem.W.findIn K (.ref C_Translator) "finish" = some (some (.ref p15)))
    (i15 : PySem.W.isFn K (.ref p15) = true)
    (l15 : K.lookup p15 = some ⟨oc15, od15, .func (PySem.W.fnOf "finish" "Translator.finish" (defArgs s_Translator_finish) (defBody s_Translator_finish) (defScope s_Translator_finish) .none kV15 dc15 pm15 an15 cd15 ct15), sl15⟩)
    (c15 : PySem.W.codeIn K cd15 "Translator.finish" = true)
    (k15 : PySem.W.keepIn K (.ref p15) = true)
    (a16 : PySem.W.findIn K (.ref C_Translator) "_end_numeral" = some (some (.ref p16)))
    (i16 : PySem.W.isFn K (.ref p16) = true)
    (l16 : K.lookup p16 = some ⟨oc16, od16, .func (PySem.W.fnOf "_end_numeral" "Translator._end_numeral" (defArgs s_Translator_end_numeral) (defBody s_Translator_end_numeral) (defScope s_Translator_end_numeral) .none kV16 dc16 pm16 an16 cd16 ct16), sl16⟩)
    (c16 : PySem.W.codeIn K cd16 "Translator._end_numeral" = true)
    (k16 : PySem.W.keepIn K (.ref p16) = true)
    (a17 : PySem.W.findIn K (.ref C_Translator) "_take_skipped" = some (some (.ref p17)))
    (i17 : PySem.W.isFn K (.ref p17) = true)
    (l17 : K.lookup p17 = some ⟨oc17, od17, .func (PySem.W.fnOf "_take_skipped" "Translator._take_skipped" (defArgs s_Translator_take_skipped) (defBody s_Translator_take_skipped) (defScope s_Translator_take_skipped) .none kV17 dc17 pm17 an17 cd17 ct17), sl17⟩)
    (c17 : PySem.W.codeIn K cd17 "Translator._take_skipped" = true)
    (k17 : PySem.W.keepIn K (.ref p17) = true)
    (a18 : PySem.W.findIn K (.ref C_Translator) "_take_sign" = some (some (.ref p18)))
    (i18 : PySem.W.isFn K (.ref p18) = true)
    (l18 : K.lookup p18 = some ⟨oc18, od18, .func (PySem.W.fnOf "_take_sign" "Translator._take_sign" (defArgs s_Translator_take_sign) (defBody s_Translator_take_sign) (defScope s_Translator_take_sign) .none kV18 dc18 pm18 an18 cd18 ct18), sl18⟩)
    (c18 : PySem.W.codeIn K cd18 "Translator._take_sign" = true)
    (k18 : PySem.W.keepIn K (.ref p18) = true)
    (a19 : PySem.W.nsIn K mainGlobals "_law_number" = some (some (.ref p19)))
    (l19 : K.lookup p19 = some ⟨oc19, od19, .func (PySem.W.fnOf "_law_number" "_law_number" (defArgs s_law_number) (defBody s_law_number) (defScope s_law_number) .none kV19 dc19 pm19 an19 cd19 ct19), sl19⟩)
    (c19 : PySem.W.codeIn K cd19 "_law_number" = true)
    (k19 : PySem.W.keepIn K (.ref p19) = true)
    (a20 : PySem.W.nsIn K mainGlobals "_law_draws" = some (some (.ref p20)))
    (l20 : K.lookup p20 = some ⟨oc20, od20, .func (PySem.W.fnOf "_law_draws" "_law_draws" (defArgs s_law_draws) (defBody s_law_draws) (defScope s_law_draws) .none kV20 dc20 pm20 an20 cd20 ct20), sl20⟩)
    (c20 : PySem.W.codeIn K cd20 "_law_draws" = true)
    (k20 : PySem.W.keepIn K (.ref p20) = true)
    (a21 : PySem.W.nsIn K mainGlobals "_law_next" = some (some (.ref p21)))
    (l21 : K.lookup p21 = some ⟨oc21, od21, .func (PySem.W.fnOf "_law_next" "_law_next" (defArgs s_law_next) (defBody s_law_next) (defScope s_law_next) .none kV21 dc21 pm21 an21 cd21 ct21), sl21⟩)
    (c21 : PySem.W.codeIn K cd21 "_law_next" = true)
    (k21 : PySem.W.keepIn K (.ref p21) = true)
    (a22 : PySem.W.nsIn K mainGlobals "_law_sign" = some (some (.ref p22)))
    (l22 : K.lookup p22 = some ⟨oc22, od22, .func (PySem.W.fnOf "_law_sign" "_law_sign" (defArgs s_law_sign) (defBody s_law_sign) (defScope s_law_sign) .none kV22 dc22 pm22 an22 cd22 ct22), sl22⟩)
    (c22 : PySem.W.codeIn K cd22 "_law_sign" = true)
    (k22 : PySem.W.keepIn K (.ref p22) = true)
    (a23 : PySem.W.nsIn K mainGlobals "_law_program" = some (some (.ref p23)))
    (l23 : K.lookup p23 = some ⟨oc23, od23, .func (PySem.W.fnOf "_law_program" "_law_program" (defArgs s_law_program) (defBody s_law_program) (defScope s_law_program) .none kV23 dc23 pm23 an23 cd23 ct23), sl23⟩)
    (c23 : PySem.W.codeIn K cd23 "_law_program" = true)
    (k23 : PySem.W.keepIn K (.ref p23) = true)
    (a24 : PySem.W.nsIn K mainGlobals "_law_pull" = some (some (.ref p24)))
    (l24 : K.lookup p24 = some ⟨oc24, od24, .func (PySem.W.fnOf "_law_pull" "_law_pull" (defArgs s_law_pull) (defBody s_law_pull) (defScope s_law_pull) .none kV24 dc24 pm24 an24 cd24 ct24), sl24⟩)
    (c24 : PySem.W.codeIn K cd24 "_law_pull" = true)
    (k24 : PySem.W.keepIn K (.ref p24) = true)
    (a25 : PySem.W.nsIn K mainGlobals "_law_emit" = some (some (.ref p25)))
    (l25 : K.lookup p25 = some ⟨oc25, od25, .func (PySem.W.fnOf "_law_emit" "_law_emit" (defArgs s_law_emit) (defBody s_law_emit) (defScope s_law_emit) .none kV25 dc25 pm25 an25 cd25 ct25), sl25⟩)
    (c25 : PySem.W.codeIn K cd25 "_law_emit" = true)
    (k25 : PySem.W.keepIn K (.ref p25) = true)
    (a26 : PySem.W.nsIn K mainGlobals "_law_branch" = some (some (.ref p26)))
    (l26 : K.lookup p26 = some ⟨oc26, od26, .func (PySem.W.fnOf "_law_branch" "_law_branch" (defArgs s_law_branch) (defBody s_law_branch) (defScope s_law_branch) .none kV26 dc26 pm26 an26 cd26 ct26), sl26⟩)
    (c26 : PySem.W.codeIn K cd26 "_law_branch" = true)
    (k26 : PySem.W.keepIn K (.ref p26) = true)
    (a27 : PySem.W.nsIn K mainGlobals "_law_pair" = some (some (.ref p27)))
    (l27 : K.lookup p27 = some ⟨oc27, od27, .func (PySem.W.fnOf "_law_pair" "_law_pair" (defArgs s_law_pair) (defBody s_law_pair) (defScope s_law_pair) .none kV27 dc27 pm27 an27 cd27 ct27), sl27⟩)
    (c27 : PySem.W.codeIn K cd27 "_law_pair" = true)
    (k27 : PySem.W.keepIn K (.ref p27) = true)
    (a28 : PySem.W.nsIn K mainGlobals "_law_code" = some (some (.ref p28)))
    (l28 : K.lookup p28 = some ⟨oc28, od28, .func (PySem.W.fnOf "_law_code" "_law_code" (defArgs s_law_code) (defBody s_law_code) (defScope s_law_code) .none kV28 dc28 pm28 an28 cd28 ct28), sl28⟩)
    (c28 : PySem.W.codeIn K cd28 "_law_code" = true)
    (k28 : PySem.W.keepIn K (.ref p28) = true)
    (a29 : PySem.W.nsIn K mainGlobals "_law_translate" = some (some (.ref p29)))
    (l29 : K.lookup p29 = some ⟨oc29, od29, .func (PySem.W.fnOf "_law_translate" "_law_translate" (defArgs s_law_translate) (defBody s_law_translate) (defScope s_law_translate) .none kV29 dc29 pm29 an29 cd29 ct29), sl29⟩)
    (c29 : PySem.W.codeIn K cd29 "_law_translate" = true)
    (k29 : PySem.W.keepIn K (.ref p29) = true)
    (a30 : PySem.W.nsIn K mainGlobals "_law_is_integer" = some (some (.ref p30)))
    (l30 : K.lookup p30 = some ⟨oc30, od30, .func (PySem.W.fnOf "_law_is_integer" "_law_is_integer" (defArgs s_law_is_integer) (defBody s_law_is_integer) (defScope s_law_is_integer) .none kV30 dc30 pm30 an30 cd30 ct30), sl30⟩)
    (c30 : PySem.W.codeIn K cd30 "_law_is_integer" = true)
    (k30 : PySem.W.keepIn K (.ref p30) = true)
    (a31 : PySem.W.nsIn K mainGlobals "_law_is_integers" = some (some (.ref p31)))
    (l31 : K.lookup p31 = some ⟨oc31, od31, .func (PySem.W.fnOf "_law_is_integers" "_law_is_integers" (defArgs s_law_is_integers) (defBody s_law_is_integers) (defScope s_law_is_integers) .none kV31 dc31 pm31 an31 cd31 ct31), sl31⟩)
    (c31 : PySem.W.codeIn K cd31 "_law_is_integers" = true)
    (k31 : PySem.W.keepIn K (.ref p31) = true)
    (a32 : PySem.W.nsIn K mainGlobals "_law_made" = some (some (.ref p32)))
    (l32 : K.lookup p32 = some ⟨oc32, od32, .func (PySem.W.fnOf "_law_made" "_law_made" (defArgs s_law_made) (defBody s_law_made) (defScope s_law_made) .none kV32 dc32 pm32 an32 cd32 ct32), sl32⟩)
    (c32 : PySem.W.codeIn K cd32 "_law_made" = true)
    (k32 : PySem.W.keepIn K (.ref p32) = true)
    (a33 : PySem.W.nsIn K mainGlobals "_law_follow" = some (some (.ref p33)))
    (l33 : K.lookup p33 = some ⟨oc33, od33, .func (PySem.W.fnOf "_law_follow" "_law_follow" (defArgs s_law_follow) (defBody s_law_follow) (defScope s_law_follow) .none kV33 dc33 pm33 an33 cd33 ct33), sl33⟩)
    (c33 : PySem.W.codeIn K cd33 "_law_follow" = true)
    (k33 : PySem.W.keepIn K (.ref p33) = true)
    (a34 : PySem.W.nsIn K mainGlobals "_law_agrees" = some (some (.ref p34)))
    (l34 : K.lookup p34 = some ⟨oc34, od34, .func (PySem.W.fnOf "_law_agrees" "_law_agrees" (defArgs s_law_agrees) (defBody s_law_agrees) (defScope s_law_agrees) .none kV34 dc34 pm34 an34 cd34 ct34), sl34⟩)
    (c34 : PySem.W.codeIn K cd34 "_law_agrees" = true)
    (k34 : PySem.W.keepIn K (.ref p34) = true)
    (a35 : PySem.W.nsIn K mainGlobals "law" = some (some (.ref p35)))
    (l35 : K.lookup p35 = some ⟨oc35, od35, .func (PySem.W.fnOf "law" "law" (defArgs s_law) (defBody s_law) (defScope s_law) .none kV35 dc35 pm35 an35 cd35 ct35), sl35⟩)
    (c35 : PySem.W.codeIn K cd35 "law" = true)
    (k35 : PySem.W.keepIn K (.ref p35) = true)
    (pg_Translator : PySem.W.plainGet K C_Translator Str.empty = true)
    (hd_Translator : PySem.W.hasDictIn K C_Translator = true)
    (po_Translator : PySem.W.plainOver K C_Translator = true)
    (sa_Translator : PySem.W.findIn K (.ref C_Translator) "__setattr__" = some (some (.builtin "object.__setattr__")))
    (mk_Translator : PySem.W.makesIn K C_Translator = true)
    (kc_Translator : PySem.W.keepIn K (.ref C_Translator) = true)
    (na_Translator_image : PySem.W.findIn K (.ref C_Translator) "image" = some none)
    (na_Translator_m : PySem.W.findIn K (.ref C_Translator) "m" = some none)
    (na_Translator_k : PySem.W.findIn K (.ref C_Translator) "k" = some none)
    (na_Translator_pile : PySem.W.findIn K (.ref C_Translator) "pile" = some none)
    (na_Translator_numeral : PySem.W.findIn K (.ref C_Translator) "numeral" = some none)
    (na_Translator_waiting : PySem.W.findIn K (.ref C_Translator) "waiting" = some none)
    (na_Translator_by : PySem.W.findIn K (.ref C_Translator) "_by" = some none)
    (na_Translator_stopped : PySem.W.findIn K (.ref C_Translator) "_stopped" = some none)
    (na_Translator_finished : PySem.W.findIn K (.ref C_Translator) "_finished" = some none)
    (g_BRACKETS : PySem.W.nsIn K mainGlobals "_BRACKETS" = some (some (.ref D_BRACKETS)))
    (tl_BRACKETS : K.lookup D_BRACKETS = some ⟨.type "dict", none, .dict es_BRACKETS nn_BRACKETS, #[]⟩)
    (tk_BRACKETS : ikeys es_BRACKETS.toList = some [(91, .ref p3), (124, .ref p4), (93, .ref p5), (123, .ref p6), (125, .ref p7), (59, .ref p8)])
    (tw_BRACKETS : (D_BRACKETS == sysModules) = false)
    (tn_BRACKETS : [p3, p4, p5, p6, p7, p8].Nodup)
    (c_BRANCH : PySem.W.nsIn K mainGlobals "BRANCH" = some (some (.int 63 t_BRANCH)))
    (c_COLON : PySem.W.nsIn K mainGlobals "COLON" = some (some (.int 58 t_COLON)))
    (c_NOP : PySem.W.nsIn K mainGlobals "NOP" = some (some (.int 32 t_NOP)))
    (c_PUSH : PySem.W.nsIn K mainGlobals "PUSH" = some (some (.int 35 t_PUSH)))
    (c_QUOTE : PySem.W.nsIn K mainGlobals "QUOTE" = some (some (.int 39 t_QUOTE)))
    (c_RETURN : PySem.W.nsIn K mainGlobals "RETURN" = some (some (.int 41 t_RETURN)))
    (c_SET : PySem.W.nsIn K mainGlobals "SET" = some (some (.int 61 t_SET)))
    (c_SPACE : PySem.W.nsIn K mainGlobals "SPACE" = some (some (.int 32 t_SPACE)))
    (n_bool : PySem.W.nsIn K mainGlobals "bool" = some none)
    (n_int : PySem.W.nsIn K mainGlobals "int" = some none)
    (n_isinstance : PySem.W.nsIn K mainGlobals "isinstance" = some none)
    (n_list : PySem.W.nsIn K mainGlobals "list" = some none)
    (n_range : PySem.W.nsIn K mainGlobals "range" = some none)
    : ∃ T : Txt K mg, T.f_law = p35 := by
  exact ⟨{
      C_Translator := C_Translator
      f_is_digit := p1
      d_is_digit := _
      F_is_digit := fun_mk (st := s_is_digit) l1 c1 k1
      b_is_digit := (fun_mk (st := s_is_digit) l1 c1 k1).binds (ps := ["code"]) fun _ _ _ _ _ _ us hl => match us, hl with | [_], _ => rfl
      g_is_digit := PySem.W.mg_of X G a1
      f_with_digit := p2
      d_with_digit := _
      F_with_digit := fun_mk (st := s_with_digit) l2 c2 k2
      b_with_digit := (fun_mk (st := s_with_digit) l2 c2 k2).binds (ps := ["number", "code"]) fun _ _ _ _ _ _ us hl => match us, hl with | [_, _], _ => rfl
      g_with_digit := PySem.W.mg_of X G a2
      f_begin_choice := p3
      d_begin_choice := _
      F_begin_choice := fun_mk (st := s_begin_choice) l3 c3 k3
      b_begin_choice := (fun_mk (st := s_begin_choice) l3 c3 k3).binds (ps := ["translator"]) fun _ _ _ _ _ _ us hl => match us, hl with | [_], _ => rfl
      g_begin_choice := PySem.W.mg_of X G a3
      f_turn_choice := p4
      d_turn_choice := _
      F_turn_choice := fun_mk (st := s_turn_choice) l4 c4 k4
      b_turn_choice := (fun_mk (st := s_turn_choice) l4 c4 k4).binds (ps := ["translator"]) fun _ _ _ _ _ _ us hl => match us, hl with | [_], _ => rfl
      g_turn_choice := PySem.W.mg_of X G a4
      f_end_choice := p5
      d_end_choice := _
      F_end_choice := fun_mk (st := s_end_choice) l5 c5 k5
      b_end_choice := (fun_mk (st := s_end_choice) l5 c5 k5).binds (ps := ["translator"]) fun _ _ _ _ _ _ us hl => match us, hl with | [_], _ => rfl
      g_end_choice := PySem.W.mg_of X G a5
      f_begin_loop := p6
      d_begin_loop := _
      F_begin_loop := fun_mk (st := s_begin_loop) l6 c6 k6
      b_begin_loop := (fun_mk (st := s_begin_loop) l6 c6 k6).binds (ps := ["translator"]) fun _ _ _ _ _ _ us hl => match us, hl with | [_], _ => rfl
      g_begin_loop := PySem.W.mg_of X G a6
      f_end_loop := p7
      d_end_loop := _
      F_end_loop := fun_mk (st := s_end_loop) l7 c7 k7
      b_end_loop := (fun_mk (st := s_end_loop) l7 c7 k7).binds (ps := ["translator"]) fun _ _ _ _ _ _ us hl => match us, hl with | [_], _ => rfl
      g_end_loop := PySem.W.mg_of X G a7
      f_end_definition := p8
      d_end_definition := _
      F_end_definition := fun_mk (st := s_end_definition) l8 c8 k8
      b_end_definition := (fun_mk (st := s_end_definition) l8 c8 k8).binds (ps := ["translator"]) fun _ _ _ _ _ _ us hl => match us, hl with | [_], _ => rfl
      g_end_definition := PySem.W.mg_of X G a8
      f_Translator_init := p9
      d_Translator_init := _
      F_Translator_init := fun_mk (st := s_Translator_init) l9 c9 k9
      K_Translator_init := fund_mk (st := s_Translator_init) l9 c9 k9 (hq2 q9_first q9_by)
      m_Translator_init := ⟨mk_Translator, a9, i9, kc_Translator⟩
      f_Translator_popped := p10
      d_Translator_popped := _
      F_Translator_popped := fun_mk (st := s_Translator_popped) l10 c10 k10
      b_Translator_popped := (fun_mk (st := s_Translator_popped) l10 c10 k10).binds (ps := ["self"]) fun _ _ _ _ _ _ us hl => match us, hl with | [_], _ => rfl
      m_Translator_popped := ⟨a10, i10, k10⟩
      f_Translator_taken_number := p11
      d_Translator_taken_number := _
      F_Translator_taken_number := fun_mk (st := s_Translator_taken_number) l11 c11 k11
      b_Translator_taken_number := (fun_mk (st := s_Translator_taken_number) l11 c11 k11).binds (ps := ["self"]) fun _ _ _ _ _ _ us hl => match us, hl with | [_], _ => rfl
      m_Translator_taken_number := ⟨a11, i11, k11⟩
      f_Translator_append_node := p12
      d_Translator_append_node := _
      F_Translator_append_node := fun_mk (st := s_Translator_append_node) l12 c12 k12
      b_Translator_append_node := (fun_mk (st := s_Translator_append_node) l12 c12 k12).binds (ps := ["self", "operation", "argument", "successor"]) fun _ _ _ _ _ _ us hl => match us, hl with | [_, _, _, _], _ => rfl
      m_Translator_append_node := ⟨a12, i12, k12⟩
      f_Translator_emit := p13
      d_Translator_emit := _
      F_Translator_emit := fun_mk (st := s_Translator_emit) l13 c13 k13
      b_Translator_emit := (fun_mk (st := s_Translator_emit) l13 c13 k13).binds (ps := ["self", "operation", "argument"]) fun _ _ _ _ _ _ us hl => match us, hl with | [_, _, _], _ => rfl
      m_Translator_emit := ⟨a13, i13, k13⟩
      f_Translator_take := p14
      d_Translator_take := _
      F_Translator_take := fun_mk (st := s_Translator_take) l14 c14 k14
      b_Translator_take := (fun_mk (st := s_Translator_take) l14 c14 k14).binds (ps := ["self", "code"]) fun _ _ _ _ _ _ us hl => match us, hl with | [_, _], _ => rfl
      m_Translator_take := ⟨a14, i14, k14⟩
      f_Translator_finish := p15
      d_Translator_finish := _
      F_Translator_finish := fun_mk (st := s_Translator_finish) l15 c15 k15
      b_Translator_finish := (fun_mk (st := s_Translator_finish) l15 c15 k15).binds (ps := ["self"]) fun _ _ _ _ _ _ us hl => match us, hl with | [_], _ => rfl
      m_Translator_finish := ⟨a15, i15, k15⟩
      f_Translator_end_numeral := p16
      d_Translator_end_numeral := _
      F_Translator_end_numeral := fun_mk (st := s_Translator_end_numeral) l16 c16 k16
      b_Translator_end_numeral := (fun_mk (st := s_Translator_end_numeral) l16 c16 k16).binds (ps := ["self"]) fun _ _ _ _ _ _ us hl => match us, hl with | [_], _ => rfl
      m_Translator_end_numeral := ⟨a16, i16, k16⟩
      f_Translator_take_skipped := p17
      d_Translator_take_skipped := _
      F_Translator_take_skipped := fun_mk (st := s_Translator_take_skipped) l17 c17 k17
      b_Translator_take_skipped := (fun_mk (st := s_Translator_take_skipped) l17 c17 k17).binds (ps := ["self", "code"]) fun _ _ _ _ _ _ us hl => match us, hl with | [_, _], _ => rfl
      m_Translator_take_skipped := ⟨a17, i17, k17⟩
      f_Translator_take_sign := p18
      d_Translator_take_sign := _
      F_Translator_take_sign := fun_mk (st := s_Translator_take_sign) l18 c18 k18
      b_Translator_take_sign := (fun_mk (st := s_Translator_take_sign) l18 c18 k18).binds (ps := ["self", "code"]) fun _ _ _ _ _ _ us hl => match us, hl with | [_, _], _ => rfl
      m_Translator_take_sign := ⟨a18, i18, k18⟩
      f_law_number := p19
      d_law_number := _
      F_law_number := fun_mk (st := s_law_number) l19 c19 k19
      b_law_number := (fun_mk (st := s_law_number) l19 c19 k19).binds (ps := ["_law_cell"]) fun _ _ _ _ _ _ us hl => match us, hl with | [_], _ => rfl
      g_law_number := PySem.W.mg_of X G a19
      f_law_draws := p20
      d_law_draws := _
      F_law_draws := fun_mk (st := s_law_draws) l20 c20 k20
      b_law_draws := (fun_mk (st := s_law_draws) l20 c20 k20).binds (ps := ["_law_script"]) fun _ _ _ _ _ _ us hl => match us, hl with | [_], _ => rfl
      g_law_draws := PySem.W.mg_of X G a20
      f_law_next := p21
      d_law_next := _
      F_law_next := fun_mk (st := s_law_next) l21 c21 k21
      b_law_next := (fun_mk (st := s_law_next) l21 c21 k21).binds (ps := ["_law_draws_here"]) fun _ _ _ _ _ _ us hl => match us, hl with | [_], _ => rfl
      g_law_next := PySem.W.mg_of X G a21
      f_law_sign := p22
      d_law_sign := _
      F_law_sign := fun_mk (st := s_law_sign) l22 c22 k22
      b_law_sign := (fun_mk (st := s_law_sign) l22 c22 k22).binds (ps := ["_law_draw"]) fun _ _ _ _ _ _ us hl => match us, hl with | [_], _ => rfl
      g_law_sign := PySem.W.mg_of X G a22
      f_law_program := p23
      d_law_program := _
      F_law_program := fun_mk (st := s_law_program) l23 c23 k23
      b_law_program := (fun_mk (st := s_law_program) l23 c23 k23).binds (ps := ["_law_draws_here", "_law_most"]) fun _ _ _ _ _ _ us hl => match us, hl with | [_, _], _ => rfl
      g_law_program := PySem.W.mg_of X G a23
      f_law_pull := p24
      d_law_pull := _
      F_law_pull := fun_mk (st := s_law_pull) l24 c24 k24
      b_law_pull := (fun_mk (st := s_law_pull) l24 c24 k24).binds (ps := ["_law_pile"]) fun _ _ _ _ _ _ us hl => match us, hl with | [_], _ => rfl
      g_law_pull := PySem.W.mg_of X G a24
      f_law_emit := p25
      d_law_emit := _
      F_law_emit := fun_mk (st := s_law_emit) l25 c25 k25
      b_law_emit := (fun_mk (st := s_law_emit) l25 c25 k25).binds (ps := ["_law_state", "_law_op", "_law_arg"]) fun _ _ _ _ _ _ us hl => match us, hl with | [_, _, _], _ => rfl
      g_law_emit := PySem.W.mg_of X G a25
      f_law_branch := p26
      d_law_branch := _
      F_law_branch := fun_mk (st := s_law_branch) l26 c26 k26
      b_law_branch := (fun_mk (st := s_law_branch) l26 c26 k26).binds (ps := ["_law_state", "_law_code_here"]) fun _ _ _ _ _ _ us hl => match us, hl with | [_, _], _ => rfl
      g_law_branch := PySem.W.mg_of X G a26
      f_law_pair := p27
      d_law_pair := _
      F_law_pair := fun_mk (st := s_law_pair) l27 c27 k27
      b_law_pair := (fun_mk (st := s_law_pair) l27 c27 k27).binds (ps := ["_law_state", "_law_sign_here", "_law_code_here"]) fun _ _ _ _ _ _ us hl => match us, hl with | [_, _, _], _ => rfl
      g_law_pair := PySem.W.mg_of X G a27
      f_law_code := p28
      d_law_code := _
      F_law_code := fun_mk (st := s_law_code) l28 c28 k28
      b_law_code := (fun_mk (st := s_law_code) l28 c28 k28).binds (ps := ["_law_state", "_law_code_here"]) fun _ _ _ _ _ _ us hl => match us, hl with | [_, _], _ => rfl
      g_law_code := PySem.W.mg_of X G a28
      f_law_translate := p29
      d_law_translate := _
      F_law_translate := fun_mk (st := s_law_translate) l29 c29 k29
      b_law_translate := (fun_mk (st := s_law_translate) l29 c29 k29).binds (ps := ["_law_codes", "_law_first", "_law_by"]) fun _ _ _ _ _ _ us hl => match us, hl with | [_, _, _], _ => rfl
      g_law_translate := PySem.W.mg_of X G a29
      f_law_is_integer := p30
      d_law_is_integer := _
      F_law_is_integer := fun_mk (st := s_law_is_integer) l30 c30 k30
      b_law_is_integer := (fun_mk (st := s_law_is_integer) l30 c30 k30).binds (ps := ["_law_actual"]) fun _ _ _ _ _ _ us hl => match us, hl with | [_], _ => rfl
      g_law_is_integer := PySem.W.mg_of X G a30
      f_law_is_integers := p31
      d_law_is_integers := _
      F_law_is_integers := fun_mk (st := s_law_is_integers) l31 c31 k31
      b_law_is_integers := (fun_mk (st := s_law_is_integers) l31 c31 k31).binds (ps := ["_law_actual"]) fun _ _ _ _ _ _ us hl => match us, hl with | [_], _ => rfl
      g_law_is_integers := PySem.W.mg_of X G a31
      f_law_made := p32
      d_law_made := _
      F_law_made := fun_mk (st := s_law_made) l32 c32 k32
      b_law_made := (fun_mk (st := s_law_made) l32 c32 k32).binds (ps := ["_law_first", "_law_by", "_law_choice"]) fun _ _ _ _ _ _ us hl => match us, hl with | [_, _, _], _ => rfl
      g_law_made := PySem.W.mg_of X G a32
      f_law_follow := p33
      d_law_follow := _
      F_law_follow := fun_mk (st := s_law_follow) l33 c33 k33
      b_law_follow := (fun_mk (st := s_law_follow) l33 c33 k33).binds (ps := ["_law_state", "_law_code_here"]) fun _ _ _ _ _ _ us hl => match us, hl with | [_, _], _ => rfl
      g_law_follow := PySem.W.mg_of X G a33
      f_law_agrees := p34
      d_law_agrees := _
      F_law_agrees := fun_mk (st := s_law_agrees) l34 c34 k34
      b_law_agrees := (fun_mk (st := s_law_agrees) l34 c34 k34).binds (ps := ["_law_translator", "_law_state"]) fun _ _ _ _ _ _ us hl => match us, hl with | [_, _], _ => rfl
      g_law_agrees := PySem.W.mg_of X G a34
      f_law := p35
      d_law := _
      F_law := fun_mk (st := s_law) l35 c35 k35
      b_law := (fun_mk (st := s_law) l35 c35 k35).binds (ps := ["_law_script"]) fun _ _ _ _ _ _ us hl => match us, hl with | [_], _ => rfl
      g_law := PySem.W.mg_of X G a35
      h_law := fun s v => .of_eq rfl
      gc_Translator := PySem.W.mg_of X G g_Translator
      cl_Translator := ⟨pg_Translator, hd_Translator, po_Translator, sa_Translator⟩
      na_Translator_image := na_Translator_image
      na_Translator_m := na_Translator_m
      na_Translator_k := na_Translator_k
      na_Translator_pile := na_Translator_pile
      na_Translator_numeral := na_Translator_numeral
      na_Translator_waiting := na_Translator_waiting
      na_Translator_by := na_Translator_by
      na_Translator_stopped := na_Translator_stopped
      na_Translator_finished := na_Translator_finished
      D_BRACKETS := D_BRACKETS
      g_BRACKETS := PySem.W.mg_of X G g_BRACKETS
      tab_BRACKETS := ⟨⟨_, _, tl_BRACKETS, tk_BRACKETS⟩, tw_BRACKETS⟩
      nd_BRACKETS := tn_BRACKETS
      t_BRANCH := t_BRANCH
      c_BRANCH := PySem.W.mg_of X G c_BRANCH
      t_COLON := t_COLON
      c_COLON := PySem.W.mg_of X G c_COLON
      t_NOP := t_NOP
      c_NOP := PySem.W.mg_of X G c_NOP
      t_PUSH := t_PUSH
      c_PUSH := PySem.W.mg_of X G c_PUSH
      t_QUOTE := t_QUOTE
      c_QUOTE := PySem.W.mg_of X G c_QUOTE
      t_RETURN := t_RETURN
      c_RETURN := PySem.W.mg_of X G c_RETURN
      t_SET := t_SET
      c_SET := PySem.W.mg_of X G c_SET
      t_SPACE := t_SPACE
      c_SPACE := PySem.W.mg_of X G c_SPACE
      n_bool := PySem.W.mg_none_of X G n_bool
      n_int := PySem.W.mg_none_of X G n_int
      n_isinstance := PySem.W.mg_none_of X G n_isinstance
      n_list := PySem.W.mg_none_of X G n_list
      n_range := PySem.W.mg_none_of X G n_range }, rfl⟩
theorem all_mk {l : PySem.W.OpenLaw} {w : World} {K : PySem.W.Frag} {h : Heap} {mg : Str → Option Value} {fa p1 p2 p3 p4 p5 p6 p7 p8 kD9 p9 p10 p11 p12 p13 p14 p15 p16 p17 p18 p19 p20 p21 p22 p23 p24 p25 p26 p27 p28 p29 p30 p31 p32 p33 p34 p35 C_Translator D_BRACKETS : Addr} (X : K.In h) (G : h.Ns mainGlobals mg) (hfa : mg "law" = some (.ref fa))
    {tq9_first tq9_by t_BRANCH t_COLON t_NOP t_PUSH t_QUOTE t_RETURN t_SET t_SPACE : Tok}
    {od1 an1 od2 an2 od3 an3 od4 an4 od5 an5 od6 an6 od7 an7 od8 an8 od9 an9 od10 an10 od11 an11 od12 an12 od13 an13 od14 an14 od15 an15 od16 an16 od17 an17 od18 an18 od19 an19 od20 an20 od21 an21 od22 an22 od23 an23 od24 an24 od25 an25 od26 an26 od27 an27 od28 an28 od29 an29 od30 an30 od31 an31 od32 an32 od33 an33 od34 an34 od35 an35 : Option Addr} {sl1 sl2 sl3 sl4 sl5 sl6 sl7 sl8 sl9 sl10 sl11 sl12 sl13 sl14 sl15 sl16 sl17 sl18 sl19 sl20 sl21 sl22 sl23 sl24 sl25 sl26 sl27 sl28 sl29 sl30 sl31 sl32 sl33 sl34 sl35 : Array (Option Value)}
    {es_BRACKETS : Array DictEntry} {nn_BRACKETS : Nat}
    {oc1 kV1 dc1 pm1 cd1 ct1 oc2 kV2 dc2 pm2 cd2 ct2 oc3 kV3 dc3 pm3 cd3 ct3 oc4 kV4 dc4 pm4 cd4 ct4 oc5 kV5 dc5 pm5 cd5 ct5 oc6 kV6 dc6 pm6 cd6 ct6 oc7 kV7 dc7 pm7 cd7 ct7 oc8 kV8 dc8 pm8 cd8 ct8 oc9 dc9 pm9 cd9 ct9 oc10 kV10 dc10 pm10 cd10 ct10 oc11 kV11 dc11 pm11 cd11 ct11 oc12 kV12 dc12 pm12 cd12 ct12 oc13 kV13 dc13 pm13 cd13 ct13 oc14 kV14 dc14 pm14 cd14 ct14 oc15 kV15 dc15 pm15 cd15 ct15 oc16 kV16 dc16 pm16 cd16 ct16 oc17 kV17 dc17 pm17 cd17 ct17 oc18 kV18 dc18 pm18 cd18 ct18 oc19 kV19 dc19 pm19 cd19 ct19 oc20 kV20 dc20 pm20 cd20 ct20 oc21 kV21 dc21 pm21 cd21 ct21 oc22 kV22 dc22 pm22 cd22 ct22 oc23 kV23 dc23 pm23 cd23 ct23 oc24 kV24 dc24 pm24 cd24 ct24 oc25 kV25 dc25 pm25 cd25 ct25 oc26 kV26 dc26 pm26 cd26 ct26 oc27 kV27 dc27 pm27 cd27 ct27 oc28 kV28 dc28 pm28 cd28 ct28 oc29 kV29 dc29 pm29 cd29 ct29 oc30 kV30 dc30 pm30 cd30 ct30 oc31 kV31 dc31 pm31 cd31 ct31 oc32 kV32 dc32 pm32 cd32 ct32 oc33 kV33 dc33 pm33 cd33 ct33 oc34 kV34 dc34 pm34 cd34 ct34 oc35 kV35 dc35 pm35 cd35 ct35 : Value}
    (g_Translator : PySem.W.nsIn K mainGlobals "Translator" = some (some (.ref C_Translator)))
    (a1 : PySem.W.nsIn K mainGlobals "is_digit" = some (some (.ref p1)))
    (l1 : K.lookup p1 = some ⟨oc1, od1, .func (PySem.W.fnOf "is_digit" "is_digit" (defArgs s_is_digit) (defBody s_is_digit) (defScope s_is_digit) .none kV1 dc1 pm1 an1 cd1 ct1), sl1⟩)
    (c1 : PySem.W.codeIn K cd1 "is_digit" = true)
    (k1 : PySem.W.keepIn K (.ref p1) = true)
    (a2 : PySem.W.nsIn K mainGlobals "with_digit" = some (some (.ref p2)))
    (l2 : K.lookup p2 = some ⟨oc2, od2, .func (PySem.W.fnOf "with_digit" "with_digit" (defArgs s_with_digit) (defBody s_with_digit) (defScope s_with_digit) .none kV2 dc2 pm2 an2 cd2 ct2), sl2⟩)
    (c2 : PySem.W.codeIn K cd2 "with_digit" = true)
    (k2 : PySem.W.keepIn K (.ref p2) = true)
    (a3 : PySem.W.nsIn K mainGlobals "_begin_choice" = some (some (.ref p3)))
    (l3 : K.lookup p3 = some ⟨oc3, od3, .func (PySem.W.fnOf "_begin_choice" "_begin_choice" (defArgs s_begin_choice) (defBody s_begin_choice) (defScope s_begin_choice) .none kV3 dc3 pm3 an3 cd3 ct3), sl3⟩)
    (c3 : PySem.W.codeIn K cd3 "_begin_choice" = true)
    (k3 : PySem.W.keepIn K (.ref p3) = true)
    (a4 : PySem.W.nsIn K mainGlobals "_turn_choice" = some (some (.ref p4)))
    (l4 : K.lookup p4 = some ⟨oc4, od4, .func (PySem.W.fnOf "_turn_choice" "_turn_choice" (defArgs s_turn_choice) (defBody s_turn_choice) (defScope s_turn_choice) .none kV4 dc4 pm4 an4 cd4 ct4), sl4⟩)
    (c4 : PySem.W.codeIn K cd4 "_turn_choice" = true)
    (k4 : PySem.W.keepIn K (.ref p4) = true)
    (a5 : PySem.W.nsIn K mainGlobals "_end_choice" = some (some (.ref p5)))
    (l5 : K.lookup p5 = some ⟨oc5, od5, .func (PySem.W.fnOf "_end_choice" "_end_choice" (defArgs s_end_choice) (defBody s_end_choice) (defScope s_end_choice) .none kV5 dc5 pm5 an5 cd5 ct5), sl5⟩)
    (c5 : PySem.W.codeIn K cd5 "_end_choice" = true)
    (k5 : PySem.W.keepIn K (.ref p5) = true)
    (a6 : PySem.W.nsIn K mainGlobals "_begin_loop" = some (some (.ref p6)))
    (l6 : K.lookup p6 = some ⟨oc6, od6, .func (PySem.W.fnOf "_begin_loop" "_begin_loop" (defArgs s_begin_loop) (defBody s_begin_loop) (defScope s_begin_loop) .none kV6 dc6 pm6 an6 cd6 ct6), sl6⟩)
    (c6 : PySem.W.codeIn K cd6 "_begin_loop" = true)
    (k6 : PySem.W.keepIn K (.ref p6) = true)
    (a7 : PySem.W.nsIn K mainGlobals "_end_loop" = some (some (.ref p7)))
    (l7 : K.lookup p7 = some ⟨oc7, od7, .func (PySem.W.fnOf "_end_loop" "_end_loop" (defArgs s_end_loop) (defBody s_end_loop) (defScope s_end_loop) .none kV7 dc7 pm7 an7 cd7 ct7), sl7⟩)
    (c7 : PySem.W.codeIn K cd7 "_end_loop" = true)
    (k7 : PySem.W.keepIn K (.ref p7) = true)
    (a8 : PySem.W.nsIn K mainGlobals "_end_definition" = some (some (.ref p8)))
    (l8 : K.lookup p8 = some ⟨oc8, od8, .func (PySem.W.fnOf "_end_definition" "_end_definition" (defArgs s_end_definition) (defBody s_end_definition) (defScope s_end_definition) .none kV8 dc8 pm8 an8 cd8 ct8), sl8⟩)
    (c8 : PySem.W.codeIn K cd8 "_end_definition" = true)
    (k8 : PySem.W.keepIn K (.ref p8) = true)
    (a9 : PySem.W.findIn K (.ref C_Translator) "__init__" = some (some (.ref p9)))
    (i9 : PySem.W.isFn K (.ref p9) = true)
    (l9 : K.lookup p9 = some ⟨oc9, od9, .func (PySem.W.fnOf "__init__" "Translator.__init__" (defArgs s_Translator_init) (defBody s_Translator_init) (defScope s_Translator_init) .none (.ref kD9) dc9 pm9 an9 cd9 ct9), sl9⟩)
    (q9_first : PySem.W.nsIn K kD9 "first" = some (some (.int 200 tq9_first)))
    (q9_by : PySem.W.nsIn K kD9 "by" = some (some (.int 1 tq9_by)))
    (c9 : PySem.W.codeIn K cd9 "Translator.__init__" = true)
    (k9 : PySem.W.keepIn K (.ref p9) = true)
    (a10 : PySem.W.findIn K (.ref C_Translator) "popped" = some (some (.ref p10)))
    (i10 : PySem.W.isFn K (.ref p10) = true)
    (l10 : K.lookup p10 = some ⟨oc10, od10, .func (PySem.W.fnOf "popped" "Translator.popped" (defArgs s_Translator_popped) (defBody s_Translator_popped) (defScope s_Translator_popped) .none kV10 dc10 pm10 an10 cd10 ct10), sl10⟩)
    (c10 : PySem.W.codeIn K cd10 "Translator.popped" = true)
    (k10 : PySem.W.keepIn K (.ref p10) = true)
    (a11 : PySem.W.findIn K (.ref C_Translator) "taken_number" = some (some (.ref p11)))
    (i11 : PySem.W.isFn K (.ref p11) = true)
    (l11 : K.lookup p11 = some ⟨oc11, od11, .func (PySem.W.fnOf "taken_number" "Translator.taken_number" (defArgs s_Translator_taken_number) (defBody s_Translator_taken_number) (defScope s_Translator_taken_number) .none kV11 dc11 pm11 an11 cd11 ct11), sl11⟩)
    (c11 : PySem.W.codeIn K cd11 "Translator.taken_number" = true)
    (k11 : PySem.W.keepIn K (.ref p11) = true)
    (a12 : PySem.W.findIn K (.ref C_Translator) "append_node" = some (some (.ref p12)))
    (i12 : PySem.W.isFn K (.ref p12) = true)
    (l12 : K.lookup p12 = some ⟨oc12, od12, .func (PySem.W.fnOf "append_node" "Translator.append_node" (defArgs s_Translator_append_node) (defBody s_Translator_append_node) (defScope s_Translator_append_node) .none kV12 dc12 pm12 an12 cd12 ct12), sl12⟩)
    (c12 : PySem.W.codeIn K cd12 "Translator.append_node" = true)
    (k12 : PySem.W.keepIn K (.ref p12) = true)
    (a13 : PySem.W.findIn K (.ref C_Translator) "emit" = some (some (.ref p13)))
    (i13 : PySem.W.isFn K (.ref p13) = true)
    (l13 : K.lookup p13 = some ⟨oc13, od13, .func (PySem.W.fnOf "emit" "Translator.emit" (defArgs s_Translator_emit) (defBody s_Translator_emit) (defScope s_Translator_emit) .none kV13 dc13 pm13 an13 cd13 ct13), sl13⟩)
    (c13 : PySem.W.codeIn K cd13 "Translator.emit" = true)
    (k13 : PySem.W.keepIn K (.ref p13) = true)
    (a14 : PySem.W.findIn K (.ref C_Translator) "take" = some (some (.ref p14)))
    (i14 : PySem.W.isFn K (.ref p14) = true)
    (l14 : K.lookup p14 = some ⟨oc14, od14, .func (PySem.W.fnOf "take" "Translator.take" (defArgs s_Translator_take) (defBody s_Translator_take) (defScope s_Translator_take) .none kV14 dc14 pm14 an14 cd14 ct14), sl14⟩)
    (c14 : PySem.W.codeIn K cd14 "Translator.take" = true)
    (k14 : PySem.W.keepIn K (.ref p14) = true)
    (a15 : PySem.W.findIn K (.ref C_Translator) "finish" = some (some (.ref p15)))
    (i15 : PySem.W.isFn K (.ref p15) = true)
    (l15 : K.lookup p15 = some ⟨oc15, od15, .func (PySem.W.fnOf "finish" "Translator.finish" (defArgs s_Translator_finish) (defBody s_Translator_finish) (defScope s_Translator_finish) .none kV15 dc15 pm15 an15 cd15 ct15), sl15⟩)
    (c15 : PySem.W.codeIn K cd15 "Translator.finish" = true)
    (k15 : PySem.W.keepIn K (.ref p15) = true)
    (a16 : PySem.W.findIn K (.ref C_Translator) "_end_numeral" = some (some (.ref p16)))
    (i16 : PySem.W.isFn K (.ref p16) = true)
    (l16 : K.lookup p16 = some ⟨oc16, od16, .func (PySem.W.fnOf "_end_numeral" "Translator._end_numeral" (defArgs s_Translator_end_numeral) (defBody s_Translator_end_numeral) (defScope s_Translator_end_numeral) .none kV16 dc16 pm16 an16 cd16 ct16), sl16⟩)
    (c16 : PySem.W.codeIn K cd16 "Translator._end_numeral" = true)
    (k16 : PySem.W.keepIn K (.ref p16) = true)
    (a17 : PySem.W.findIn K (.ref C_Translator) "_take_skipped" = some (some (.ref p17)))
    (i17 : PySem.W.isFn K (.ref p17) = true)
    (l17 : K.lookup p17 = some ⟨oc17, od17, .func (PySem.W.fnOf "_take_skipped" "Translator._take_skipped" (defArgs s_Translator_take_skipped) (defBody s_Translator_take_skipped) (defScope s_Translator_take_skipped) .none kV17 dc17 pm17 an17 cd17 ct17), sl17⟩)
    (c17 : PySem.W.codeIn K cd17 "Translator._take_skipped" = true)
    (k17 : PySem.W.keepIn K (.ref p17) = true)
    (a18 : PySem.W.findIn K (.ref C_Translator) "_take_sign" = some (some (.ref p18)))
    (i18 : PySem.W.isFn K (.ref p18) = true)
    (l18 : K.lookup p18 = some ⟨oc18, od18, .func (PySem.W.fnOf "_take_sign" "Translator._take_sign" (defArgs s_Translator_take_sign) (defBody s_Translator_take_sign) (defScope s_Translator_take_sign) .none kV18 dc18 pm18 an18 cd18 ct18), sl18⟩)
    (c18 : PySem.W.codeIn K cd18 "Translator._take_sign" = true)
    (k18 : PySem.W.keepIn K (.ref p18) = true)
    (a19 : PySem.W.nsIn K mainGlobals "_law_number" = some (some (.ref p19)))
    (l19 : K.lookup p19 = some ⟨oc19, od19, .func (PySem.W.fnOf "_law_number" "_law_number" (defArgs s_law_number) (defBody s_law_number) (defScope s_law_number) .none kV19 dc19 pm19 an19 cd19 ct19), sl19⟩)
    (c19 : PySem.W.codeIn K cd19 "_law_number" = true)
    (k19 : PySem.W.keepIn K (.ref p19) = true)
    (a20 : PySem.W.nsIn K mainGlobals "_law_draws" = some (some (.ref p20)))
    (l20 : K.lookup p20 = some ⟨oc20, od20, .func (PySem.W.fnOf "_law_draws" "_law_draws" (defArgs s_law_draws) (defBody s_law_draws) (defScope s_law_draws) .none kV20 dc20 pm20 an20 cd20 ct20), sl20⟩)
    (c20 : PySem.W.codeIn K cd20 "_law_draws" = true)
    (k20 : PySem.W.keepIn K (.ref p20) = true)
    (a21 : PySem.W.nsIn K mainGlobals "_law_next" = some (some (.ref p21)))
    (l21 : K.lookup p21 = some ⟨oc21, od21, .func (PySem.W.fnOf "_law_next" "_law_next" (defArgs s_law_next) (defBody s_law_next) (defScope s_law_next) .none kV21 dc21 pm21 an21 cd21 ct21), sl21⟩)
    (c21 : PySem.W.codeIn K cd21 "_law_next" = true)
    (k21 : PySem.W.keepIn K (.ref p21) = true)
    (a22 : PySem.W.nsIn K mainGlobals "_law_sign" = some (some (.ref p22)))
    (l22 : K.lookup p22 = some ⟨oc22, od22, .func (PySem.W.fnOf "_law_sign" "_law_sign" (defArgs s_law_sign) (defBody s_law_sign) (defScope s_law_sign) .none kV22 dc22 pm22 an22 cd22 ct22), sl22⟩)
    (c22 : PySem.W.codeIn K cd22 "_law_sign" = true)
    (k22 : PySem.W.keepIn K (.ref p22) = true)
    (a23 : PySem.W.nsIn K mainGlobals "_law_program" = some (some (.ref p23)))
    (l23 : K.lookup p23 = some ⟨oc23, od23, .func (PySem.W.fnOf "_law_program" "_law_program" (defArgs s_law_program) (defBody s_law_program) (defScope s_law_program) .none kV23 dc23 pm23 an23 cd23 ct23), sl23⟩)
    (c23 : PySem.W.codeIn K cd23 "_law_program" = true)
    (k23 : PySem.W.keepIn K (.ref p23) = true)
    (a24 : PySem.W.nsIn K mainGlobals "_law_pull" = some (some (.ref p24)))
    (l24 : K.lookup p24 = some ⟨oc24, od24, .func (PySem.W.fnOf "_law_pull" "_law_pull" (defArgs s_law_pull) (defBody s_law_pull) (defScope s_law_pull) .none kV24 dc24 pm24 an24 cd24 ct24), sl24⟩)
    (c24 : PySem.W.codeIn K cd24 "_law_pull" = true)
    (k24 : PySem.W.keepIn K (.ref p24) = true)
    (a25 : PySem.W.nsIn K mainGlobals "_law_emit" = some (some (.ref p25)))
    (l25 : K.lookup p25 = some ⟨oc25, od25, .func (PySem.W.fnOf "_law_emit" "_law_emit" (defArgs s_law_emit) (defBody s_law_emit) (defScope s_law_emit) .none kV25 dc25 pm25 an25 cd25 ct25), sl25⟩)
    (c25 : PySem.W.codeIn K cd25 "_law_emit" = true)
    (k25 : PySem.W.keepIn K (.ref p25) = true)
    (a26 : PySem.W.nsIn K mainGlobals "_law_branch" = some (some (.ref p26)))
    (l26 : K.lookup p26 = some ⟨oc26, od26, .func (PySem.W.fnOf "_law_branch" "_law_branch" (defArgs s_law_branch) (defBody s_law_branch) (defScope s_law_branch) .none kV26 dc26 pm26 an26 cd26 ct26), sl26⟩)
    (c26 : PySem.W.codeIn K cd26 "_law_branch" = true)
    (k26 : PySem.W.keepIn K (.ref p26) = true)
    (a27 : PySem.W.nsIn K mainGlobals "_law_pair" = some (some (.ref p27)))
    (l27 : K.lookup p27 = some ⟨oc27, od27, .func (PySem.W.fnOf "_law_pair" "_law_pair" (defArgs s_law_pair) (defBody s_law_pair) (defScope s_law_pair) .none kV27 dc27 pm27 an27 cd27 ct27), sl27⟩)
    (c27 : PySem.W.codeIn K cd27 "_law_pair" = true)
    (k27 : PySem.W.keepIn K (.ref p27) = true)
    (a28 : PySem.W.nsIn K mainGlobals "_law_code" = some (some (.ref p28)))
    (l28 : K.lookup p28 = some ⟨oc28, od28, .func (PySem.W.fnOf "_law_code" "_law_code" (defArgs s_law_code) (defBody s_law_code) (defScope s_law_code) .none kV28 dc28 pm28 an28 cd28 ct28), sl28⟩)
    (c28 : PySem.W.codeIn K cd28 "_law_code" = true)
    (k28 : PySem.W.keepIn K (.ref p28) = true)
    (a29 : PySem.W.nsIn K mainGlobals "_law_translate" = some (some (.ref p29)))
    (l29 : K.lookup p29 = some ⟨oc29, od29, .func (PySem.W.fnOf "_law_translate" "_law_translate" (defArgs s_law_translate) (defBody s_law_translate) (defScope s_law_translate) .none kV29 dc29 pm29 an29 cd29 ct29), sl29⟩)
    (c29 : PySem.W.codeIn K cd29 "_law_translate" = true)
    (k29 : PySem.W.keepIn K (.ref p29) = true)
    (a30 : PySem.W.nsIn K mainGlobals "_law_is_integer" = some (some (.ref p30)))
    (l30 : K.lookup p30 = some ⟨oc30, od30, .func (PySem.W.fnOf "_law_is_integer" "_law_is_integer" (defArgs s_law_is_integer) (defBody s_law_is_integer) (defScope s_law_is_integer) .none kV30 dc30 pm30 an30 cd30 ct30), sl30⟩)
    (c30 : PySem.W.codeIn K cd30 "_law_is_integer" = true)
    (k30 : PySem.W.keepIn K (.ref p30) = true)
    (a31 : PySem.W.nsIn K mainGlobals "_law_is_integers" = some (some (.ref p31)))
    (l31 : K.lookup p31 = some ⟨oc31, od31, .func (PySem.W.fnOf "_law_is_integers" "_law_is_integers" (defArgs s_law_is_integers) (defBody s_law_is_integers) (defScope s_law_is_integers) .none kV31 dc31 pm31 an31 cd31 ct31), sl31⟩)
    (c31 : PySem.W.codeIn K cd31 "_law_is_integers" = true)
    (k31 : PySem.W.keepIn K (.ref p31) = true)
    (a32 : PySem.W.nsIn K mainGlobals "_law_made" = some (some (.ref p32)))
    (l32 : K.lookup p32 = some ⟨oc32, od32, .func (PySem.W.fnOf "_law_made" "_law_made" (defArgs s_law_made) (defBody s_law_made) (defScope s_law_made) .none kV32 dc32 pm32 an32 cd32 ct32), sl32⟩)
    (c32 : PySem.W.codeIn K cd32 "_law_made" = true)
    (k32 : PySem.W.keepIn K (.ref p32) = true)
    (a33 : PySem.W.nsIn K mainGlobals "_law_follow" = some (some (.ref p33)))
    (l33 : K.lookup p33 = some ⟨oc33, od33, .func (PySem.W.fnOf "_law_follow" "_law_follow" (defArgs s_law_follow) (defBody s_law_follow) (defScope s_law_follow) .none kV33 dc33 pm33 an33 cd33 ct33), sl33⟩)
    (c33 : PySem.W.codeIn K cd33 "_law_follow" = true)
    (k33 : PySem.W.keepIn K (.ref p33) = true)
    (a34 : PySem.W.nsIn K mainGlobals "_law_agrees" = some (some (.ref p34)))
    (l34 : K.lookup p34 = some ⟨oc34, od34, .func (PySem.W.fnOf "_law_agrees" "_law_agrees" (defArgs s_law_agrees) (defBody s_law_agrees) (defScope s_law_agrees) .none kV34 dc34 pm34 an34 cd34 ct34), sl34⟩)
    (c34 : PySem.W.codeIn K cd34 "_law_agrees" = true)
    (k34 : PySem.W.keepIn K (.ref p34) = true)
    (a35 : PySem.W.nsIn K mainGlobals "law" = some (some (.ref p35)))
    (l35 : K.lookup p35 = some ⟨oc35, od35, .func (PySem.W.fnOf "law" "law" (defArgs s_law) (defBody s_law) (defScope s_law) .none kV35 dc35 pm35 an35 cd35 ct35), sl35⟩)
    (c35 : PySem.W.codeIn K cd35 "law" = true)
    (k35 : PySem.W.keepIn K (.ref p35) = true)
    (pg_Translator : PySem.W.plainGet K C_Translator Str.empty = true)
    (hd_Translator : PySem.W.hasDictIn K C_Translator = true)
    (po_Translator : PySem.W.plainOver K C_Translator = true)
    (sa_Translator : PySem.W.findIn K (.ref C_Translator) "__setattr__" = some (some (.builtin "object.__setattr__")))
    (mk_Translator : PySem.W.makesIn K C_Translator = true)
    (kc_Translator : PySem.W.keepIn K (.ref C_Translator) = true)
    (na_Translator_image : PySem.W.findIn K (.ref C_Translator) "image" = some none)
    (na_Translator_m : PySem.W.findIn K (.ref C_Translator) "m" = some none)
    (na_Translator_k : PySem.W.findIn K (.ref C_Translator) "k" = some none)
    (na_Translator_pile : PySem.W.findIn K (.ref C_Translator) "pile" = some none)
    (na_Translator_numeral : PySem.W.findIn K (.ref C_Translator) "numeral" = some none)
    (na_Translator_waiting : PySem.W.findIn K (.ref C_Translator) "waiting" = some none)
    (na_Translator_by : PySem.W.findIn K (.ref C_Translator) "_by" = some none)
    (na_Translator_stopped : PySem.W.findIn K (.ref C_Translator) "_stopped" = some none)
    (na_Translator_finished : PySem.W.findIn K (.ref C_Translator) "_finished" = some none)
    (g_BRACKETS : PySem.W.nsIn K mainGlobals "_BRACKETS" = some (some (.ref D_BRACKETS)))
    (tl_BRACKETS : K.lookup D_BRACKETS = some ⟨.type "dict", none, .dict es_BRACKETS nn_BRACKETS, #[]⟩)
    (tk_BRACKETS : ikeys es_BRACKETS.toList = some [(91, .ref p3), (124, .ref p4), (93, .ref p5), (123, .ref p6), (125, .ref p7), (59, .ref p8)])
    (tw_BRACKETS : (D_BRACKETS == sysModules) = false)
    (tn_BRACKETS : [p3, p4, p5, p6, p7, p8].Nodup)
    (c_BRANCH : PySem.W.nsIn K mainGlobals "BRANCH" = some (some (.int 63 t_BRANCH)))
    (c_COLON : PySem.W.nsIn K mainGlobals "COLON" = some (some (.int 58 t_COLON)))
    (c_NOP : PySem.W.nsIn K mainGlobals "NOP" = some (some (.int 32 t_NOP)))
    (c_PUSH : PySem.W.nsIn K mainGlobals "PUSH" = some (some (.int 35 t_PUSH)))
    (c_QUOTE : PySem.W.nsIn K mainGlobals "QUOTE" = some (some (.int 39 t_QUOTE)))
    (c_RETURN : PySem.W.nsIn K mainGlobals "RETURN" = some (some (.int 41 t_RETURN)))
    (c_SET : PySem.W.nsIn K mainGlobals "SET" = some (some (.int 61 t_SET)))
    (c_SPACE : PySem.W.nsIn K mainGlobals "SPACE" = some (some (.int 32 t_SPACE)))
    (n_bool : PySem.W.nsIn K mainGlobals "bool" = some none)
    (n_int : PySem.W.nsIn K mainGlobals "int" = some none)
    (n_isinstance : PySem.W.nsIn K mainGlobals "isinstance" = some none)
    (n_list : PySem.W.nsIn K mainGlobals "list" = some none)
    (n_range : PySem.W.nsIn K mainGlobals "range" = some none)
    : ∃ fd : FuncData, (∀ (s : Shared) (v : Value), BindsTo s fd ⟨[v], []⟩ [("_law_script", v)]) ∧ ∀ base : Heap, K.In base → base.Ns mainGlobals mg → FnOk l.prog w K mg base CX0 6 fa fd ["_law_script"] (sp_law K) := by
  obtain ⟨T, eT⟩ := mk_txt X G g_Translator a1 l1 c1 k1 a2 l2 c2 k2 a3 l3 c3 k3 a4 l4 c4 k4 a5 l5 c5 k5 a6 l6 c6 k6 a7 l7 c7 k7 a8 l8 c8 k8 a9 i9 l9 q9_first q9_by c9 k9 a10 i10 l10 c10 k10 a11 i11 l11 c11 k11 a12 i12 l12 c12 k12 a13 i13 l13 c13 k13 a14 i14 l14 c14 k14 a15 i15 l15 c15 k15 a16 i16 l16 c16 k16 a17 i17 l17 c17 k17 a18 i18 l18 c18 k18 a19 l19 c19 k19 a20 l20 c20 k20 a21 l21 c21 k21 a22 l22 c22 k22 a23 l23 c23 k23 a24 l24 c24 k24 a25 l25 c25 k25 a26 l26 c26 k26 a27 l27 c27 k27 a28 l28 c28 k28 a29 l29 c29 k29 a30 l30 c30 k30 a31 l31 c31 k31 a32 l32 c32 k32 a33 l33 c33 k33 a34 l34 c34 k34 a35 l35 c35 k35 pg_Translator hd_Translator po_Translator sa_Translator mk_Translator kc_Translator na_Translator_image na_Translator_m na_Translator_k na_Translator_pile na_Translator_numeral na_Translator_waiting na_Translator_by na_Translator_stopped na_Translator_finished g_BRACKETS tl_BRACKETS tk_BRACKETS tw_BRACKETS tn_BRACKETS c_BRANCH c_COLON c_NOP c_PUSH c_QUOTE c_RETURN c_SET c_SPACE n_bool n_int n_isinstance n_list n_range
  cases hfa.symm.trans T.g_law
  exact ⟨T.d_law, T.h_law, fun base _ _ => ok_law T⟩
end K25
open PySem PySem.W PyProof.Rows
set_option maxRecDepth 100000 in
set_option maxHeartbeats 0 in
theorem PySem.Challenge.cw_plinth_k25_translator_code_by_code_holds : PySem.Challenge.rw_plinth_k25_translator_code_by_code.Holds := by
  w_on; o_law; k_head; (case hw => w_witness2)
  k_fill
  refine L2.walk_ofK (l := PySem.Challenge.rw_plinth_k25_translator_code_by_code) (n := 63) (k := 6) (x := "_law_script") (CX := L2.CX0) (sp := K25.sp_law) rfl (by decide) rfl ⟨rfl, by decide, by decide⟩ (fun w h Y => PySem.W.kIn_of Y) ?F K25.law_at (fun _ _ _ _ z => z)
  case F =>
    intro w mg fa h KX G hmg
    refine' K25.all_mk KX G hmg ?g_Translator ?a1 ?l1 ?c1 ?k1 ?a2 ?l2 ?c2 ?k2 ?a3 ?l3 ?c3 ?k3 ?a4 ?l4 ?c4 ?k4 ?a5 ?l5 ?c5 ?k5 ?a6 ?l6 ?c6 ?k6 ?a7 ?l7 ?c7 ?k7 ?a8 ?l8 ?c8 ?k8 ?a9 ?i9 ?l9 ?q9_first ?q9_by ?c9 ?k9 ?a10 ?i10 ?l10 ?c10 ?k10 ?a11 ?i11 ?l11 ?c11 ?k11 ?a12 ?i12 ?l12 ?c12 ?k12 ?a13 ?i13 ?l13 ?c13 ?k13 ?a14 ?i14 ?l14 ?c14 ?k14 ?a15 ?i15 ?l15 ?c15 ?k15 ?a16 ?i16 ?l16 ?c16 ?k16 ?a17 ?i17 ?l17 ?c17 ?k17 ?a18 ?i18 ?l18 ?c18 ?k18 ?a19 ?l19 ?c19 ?k19 ?a20 ?l20 ?c20 ?k20 ?a21 ?l21 ?c21 ?k21 ?a22 ?l22 ?c22 ?k22 ?a23 ?l23 ?c23 ?k23 ?a24 ?l24 ?c24 ?k24 ?a25 ?l25 ?c25 ?k25 ?a26 ?l26 ?c26 ?k26 ?a27 ?l27 ?c27 ?k27 ?a28 ?l28 ?c28 ?k28 ?a29 ?l29 ?c29 ?k29 ?a30 ?l30 ?c30 ?k30 ?a31 ?l31 ?c31 ?k31 ?a32 ?l32 ?c32 ?k32 ?a33 ?l33 ?c33 ?k33 ?a34 ?l34 ?c34 ?k34 ?a35 ?l35 ?c35 ?k35 ?pg_Translator ?hd_Translator ?po_Translator ?sa_Translator ?mk_Translator ?kc_Translator ?na_Translator_image ?na_Translator_m ?na_Translator_k ?na_Translator_pile ?na_Translator_numeral ?na_Translator_waiting ?na_Translator_by ?na_Translator_stopped ?na_Translator_finished ?g_BRACKETS ?tl_BRACKETS ?tk_BRACKETS ?tw_BRACKETS ?tn_BRACKETS ?c_BRANCH ?c_COLON ?c_NOP ?c_PUSH ?c_QUOTE ?c_RETURN ?c_SET ?c_SPACE ?n_bool ?n_int ?n_isinstance ?n_list ?n_range
    (case g_Translator => k_is)
    (case a1 => k_is)
    (case l1 => k_is)
    (case c1 => k_is)
    (case k1 => k_is)
    (case a2 => k_is)
    (case l2 => k_is)
    (case c2 => k_is)
    (case k2 => k_is)
    (case a3 => k_is)
    (case l3 => k_is)
    (case c3 => k_is)
    (case k3 => k_is)
    (case a4 => k_is)
    (case l4 => k_is)
    (case c4 => k_is)
    (case k4 => k_is)
    (case a5 => k_is)
    (case l5 => k_is)
    (case c5 => k_is)
    (case k5 => k_is)
    (case a6 => k_is)
    (case l6 => k_is)
    (case c6 => k_is)
    (case k6 => k_is)
    (case a7 => k_is)
    (case l7 => k_is)
    (case c7 => k_is)
    (case k7 => k_is)
    (case a8 => k_is)
    (case l8 => k_is)
    (case c8 => k_is)
    (case k8 => k_is)
    (case a9 => k_is)
    (case i9 => k_is)
    (case l9 => k_is)
    (case q9_first => k_is)
    (case q9_by => k_is)
    (case c9 => k_is)
    (case k9 => k_is)
    (case a10 => k_is)
    (case i10 => k_is)
    (case l10 => k_is)
    (case c10 => k_is)
    (case k10 => k_is)
    (case a11 => k_is)
    (case i11 => k_is)
    (case l11 => k_is)
    (case c11 => k_is)
    (case k11 => k_is)
    (case a12 => k_is)
    (case i12 => k_is)
    (case l12 => k_is)
    (case c12 => k_is)
    (case k12 => k_is)
    (case a13 => k_is)
    (case i13 => k_is)
    (case l13 => k_is)
    (case c13 => k_is)
    (case k13 => k_is)
    (case a14 => k_is)
    (case i14 => k_is)
    (case l14 => k_is)
    (case c14 => k_is)
    (case k14 => k_is)
    (case a15 => k_is)
    (case i15 => k_is)
    (case l15 => k_is)
    (case c15 => k_is)
    (case k15 => k_is)
    (case a16 => k_is)
    (case i16 => k_is)
    (case l16 => k_is)
    (case c16 => k_is)
    (case k16 => k_is)
    (case a17 => k_is)
    (case i17 => k_is)
    (case l17 => k_is)
    (case c17 => k_is)
    (case k17 => k_is)
    (case a18 => k_is)
    (case i18 => k_is)
    (case l18 => k_is)
    (case c18 => k_is)
    (case k18 => k_is)
    (case a19 => k_is)
    (case l19 => k_is)
    (case c19 => k_is)
    (case k19 => k_is)
    (case a20 => k_is)
    (case l20 => k_is)
    (case c20 => k_is)
    (case k20 => k_is)
    (case a21 => k_is)
    (case l21 => k_is)
    (case c21 => k_is)
    (case k21 => k_is)
    (case a22 => k_is)
    (case l22 => k_is)
    (case c22 => k_is)
    (case k22 => k_is)
    (case a23 => k_is)
    (case l23 => k_is)
    (case c23 => k_is)
    (case k23 => k_is)
    (case a24 => k_is)
    (case l24 => k_is)
    (case c24 => k_is)
    (case k24 => k_is)
    (case a25 => k_is)
    (case l25 => k_is)
    (case c25 => k_is)
    (case k25 => k_is)
    (case a26 => k_is)
    (case l26 => k_is)
    (case c26 => k_is)
    (case k26 => k_is)
    (case a27 => k_is)
    (case l27 => k_is)
    (case c27 => k_is)
    (case k27 => k_is)
    (case a28 => k_is)
    (case l28 => k_is)
    (case c28 => k_is)
    (case k28 => k_is)
    (case a29 => k_is)
    (case l29 => k_is)
    (case c29 => k_is)
    (case k29 => k_is)
    (case a30 => k_is)
    (case l30 => k_is)
    (case c30 => k_is)
    (case k30 => k_is)
    (case a31 => k_is)
    (case l31 => k_is)
    (case c31 => k_is)
    (case k31 => k_is)
    (case a32 => k_is)
    (case l32 => k_is)
    (case c32 => k_is)
    (case k32 => k_is)
    (case a33 => k_is)
    (case l33 => k_is)
    (case c33 => k_is)
    (case k33 => k_is)
    (case a34 => k_is)
    (case l34 => k_is)
    (case c34 => k_is)
    (case k34 => k_is)
    (case a35 => k_is)
    (case l35 => k_is)
    (case c35 => k_is)
    (case k35 => k_is)
    (case pg_Translator => k_is)
    (case hd_Translator => k_is)
    (case po_Translator => k_is)
    (case sa_Translator => k_is)
    (case mk_Translator => k_is)
    (case kc_Translator => k_is)
    (case na_Translator_image => k_is)
    (case na_Translator_m => k_is)
    (case na_Translator_k => k_is)
    (case na_Translator_pile => k_is)
    (case na_Translator_numeral => k_is)
    (case na_Translator_waiting => k_is)
    (case na_Translator_by => k_is)
    (case na_Translator_stopped => k_is)
    (case na_Translator_finished => k_is)
    (case g_BRACKETS => k_is)
    (case tl_BRACKETS => k_is)
    (case tk_BRACKETS => first | rfl | decide +kernel)
    (case tw_BRACKETS => decide +kernel)
    (case tn_BRACKETS => decide +kernel)
    (case c_BRANCH => k_is)
    (case c_COLON => k_is)
    (case c_NOP => k_is)
    (case c_PUSH => k_is)
    (case c_QUOTE => k_is)
    (case c_RETURN => k_is)
    (case c_SET => k_is)
    (case c_SPACE => k_is)
    (case n_bool => k_is)
    (case n_int => k_is)
    (case n_isinstance => k_is)
    (case n_list => k_is)
    (case n_range => k_is)


