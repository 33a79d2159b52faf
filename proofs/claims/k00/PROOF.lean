import PyProof.Rows.All
import Wide.All
import OpenK.AllK
import Wide.FinOn
import HandS.ForMost
import HandS.ForExc
import HandS.Evl
import HandS.ExcIs
import HandS.RaiseMore
import HandS.IsInst
import HandS.Replace
import HandS.Flow
import HandS.Walk
import KE.RegKIsAll
import PySem.Challenge.RW_plinth_k00_codes_of_a_text
set_option Elab.async false
set_option linter.all false
set_option maxRecDepth 100000
set_option maxHeartbeats 4000000
/-! A layer of our own: defs that are promised only where no repr is running (guards), repr of data, the end of a law. -/
namespace Gd
open PySem PySem.Spec PyProof.Rows L2

/-- a def's promise, given only where no guard stands around -/
structure GOk (P : Program) (w : World) (K : PySem.W.Frag) (mg : Str → Option Value) (base : Heap) (CX : CXT) (k : Nat) (f : Addr) (fd : FuncData) (ps : List Str) (sp : Sp) : Prop where
  len : ∀ vs H Q E, sp vs H Q E → vs.length = ps.length
  go : ∀ (A : Around) (outer : List Env) (s : Shared) (H : Hp) (args : Args) (us : List Value) (vs : List V) (Q : VK) (E : XK),
    A.guards = some [] → Room k A → Env0 P w K mg base A outer s H → BindsTo s fd args (ps.zip us) → Vals vs us → sp vs H Q E →
      codeAny (model P w) A (.call (.ref f) args) (CR CX outer P w H s Q E) s

section
variable {P : Program} {w : World} {K : PySem.W.Frag} {mg : Str → Option Value} {base : Heap}
theorem gfun {CX : CXT} {x qual : Str} {st : Stmt} {f : Addr} {fd : FuncData} {N ps : List Str} {k : Nat} {sp : Sp}
    (F : Fun K x qual st f fd) (S : FnScope N ps (defScope st)) (len : ∀ vs H Q E, sp vs H Q E → vs.length = ps.length)
    (hb : ∀ (cdv : Value) (A : Around) (outer : List Env) (s : Shared) (H : Hp) (vs : List V) (Q : VK) (E : XK),
      A.guards = some [] → Room k (A.deeper (envOfC qual (defScope st) s.heap.objs.size f cdv)) → sp vs H Q E →
      ∃ t, PSs (cxOf CX P w K mg base N qual (defScope st) f cdv A outer s H E) (defBody st) t ∧ t { nx := fun _ H' => Q .non H', rt := Q } (start N vs) H) :
    GOk P w K mg base CX (k + 1) f fd ps sp := by
  obtain ⟨oc, od, kV, doc, pm, an, cdv, ct, osl, rfl, lk, hcd⟩ := F.ex
  constructor
  · exact len
  intro A outer s H args us vs Q E hg hr e0 hbd rv hsp
  have hl := len _ _ _ _ hsp
  have kp := fun b o e => (e0.bs b o e).1
  have KX : K.In s.heap := e0.mod.kin.keeps kp
  have lim : s.heap.NoLimit := e0.mod.nolimit.keeps kp
  refine codeAny_call_function hr.depth (KX _ _ lk) rfl S.co S.gen rfl (PySem.W.codeRec_of KX hcd) (hbd _ _ _ _ ?_)
  have hkind : ∀ y ∈ ps.zip us, (defScope st).names.lookup y.1 = some .local ∨ ((defScope st).names.lookup y.1 = some .cell ∧ ((cellsFrom (s.heap.objs.size + 1) (defScope st).names []).lookup y.1).isSome = true) := by
    rintro ⟨n, v⟩ hy
    cases S.par n (List.of_mem_zip hy).1 with
    | inl q => exact .inl q
    | inr q => exact .inr ⟨q, PySem.W.cellsFrom_some _ _ _ (.inl q)⟩
  refine wpAny_newFunctionEnv_cells S.kind hkind fun env he s1 x => ?_
  subst he
  obtain ⟨t, ht, hq⟩ := hb cdv A outer s H vs Q E hg (hr.deeper _) hsp
  refine ⟨lim.keeps x.toInCall.keep, codeAny_func (wpAny_mono (ht.run [] s1 (start N vs) H _ (inv_start S hr.hd e0 hl rv x) hq) (fun fl s' hs => ?_) fun e s' hs => hs)⟩
  cases fl with
  | ret u =>
    obtain ⟨v, σ', H', J, r2, q⟩ := hs
    exact ⟨v, H', J.os, J.bare, J.base, J.hok, r2, q⟩
  | next =>
    obtain ⟨σ', H', J, q⟩ := hs
    exact ⟨V.non, H', J.os, J.bare, J.base, J.hok, rfl, q⟩
  | brk => exact (let ⟨_, _, _, q⟩ := hs; False.elim q)
  | cont => exact (let ⟨_, _, _, q⟩ := hs; False.elim q)
end

/-! ### the call of such a def, from a body around which no guard stands -/
section
variable {X : Cx} {CX : CXT} {k : Nat} {f : Addr} {fd : FuncData} {ps : List Str} {sp : Sp} {E : XK} {x : Str} {p pos : Pos} {e : Expr} {es : List Expr} {t : TA}
theorem pe_callG (F : GOk X.prog X.w X.K X.mg X.base CX k f fd ps sp) (hgd : X.A.guards = some []) (hr : Room k X.A) (hg : Gl X x) (hm : X.mg x = some (.ref f)) (hk : PySem.W.keepIn X.K (.ref f) = true)
    (hb : Binds X.K fd ps []) (hx : Passes CX X E) (ha : PA X (e :: es) t) (hdb : (x == ("__debug__" : Str)) = false := by decide)
    (he : starEach (e :: es) X.env = (false, eval e X.env) :: starEach es X.env := by rfl) (hpl : (backTo pos (starEach es X.env)).any (·.1) = false := by rfl) :
    PE X (.Call (.Name x p) (e :: es) [] pos) (tCall sp [] E t) := by
  constructor
  intro pins s σ H Q I h
  refine wpAny_Call_Name_kw (ld_glob I hg hm ?_ hdb)
  refine PySem.W.callWith_K (h₀ := X.base) I.ok.mod.kin hk (thn (ha.run pos pins s σ H _ I h) fun us s1 hh => ?_) he hpl
  obtain ⟨vs, H1, I1, r, q⟩ := hh
  refine ⟨I1.kIn, ?_⟩
  rw [List.append_nil] at q
  have hl : us.length = ps.length := r.length.symm.trans (F.len _ _ _ _ q)
  have bd := hb s1 us I1.kIn (by rw [List.append_nil]; exact hl)
  rw [List.append_nil] at bd
  refine wpAny_call (codeAny_mono (F.go X.A X.stack s1 H1 ⟨us, []⟩ us vs Q E hgd hr I1.env0 bd r q) fun r' s' hq => ?_)
  cases r' with
  | error e => exact hx pins σ H1 s1 e s' I1 hq
  | ok fl =>
    cases fl with
    | ret u => exact I1.after hq
    | next => exact False.elim hq
    | brk => exact False.elim hq
    | cont => exact False.elim hq
end

/-! ### repr of data -/
def rRepr (K : PySem.W.Frag) : List V → Hp → VK → Prop := fun xs H Q => ∃ (v : V) (d : PyData), xs = [v] ∧ Dp K H v d ∧ d.showable = true ∧ d.hasDict = false ∧ d.depth ≤ 40 ∧ d.shown.length ≤ sizeLine ∧ Q (.str d.shown) H
section
variable {X : Cx}
theorem call_reprD (hgd : X.A.guards = some []) (hu : X.A.units + 64 < cLine) : CallR X (.builtin "repr") (rRepr X.K) := by
  intro pins s σ H xs us Q I r h
  obtain ⟨v, d, rfl, hd, hs, hnd, hdp, hz, q⟩ := h
  obtain ⟨u, rfl, ru⟩ := vals1 r
  obtain ⟨as, hr⟩ := Dp.reads I d v u hd ru
  cases hd with
  | lst h1 h2 =>
    cases ru
    exact repr_of_reads' hr hs (PyData.noDict_hsm hnd) hgd (by omega) (fun _ _ e => e) (fun h' u tk hk => ⟨.str _, H, I.kept (t' := tk) hk, ⟨_, rfl⟩, q⟩) hz
  | tup h1 h2 =>
    cases ru
    exact repr_of_reads' hr hs (PyData.noDict_hsm hnd) hgd (by omega) (fun _ _ e => e) (fun h' u tk hk => ⟨.str _, H, I.kept (t' := tk) hk, ⟨_, rfl⟩, q⟩) hz
  | int i =>
    obtain ⟨t, rfl⟩ := ru
    exact PySem.P.repr_of_int (of_decide_eq_true hs) ⟨.str _, H, I.tok _, ⟨_, rfl⟩, q⟩
  | non =>
    cases ru
    exact PySem.P.repr_of_none ⟨.str _, H, I.tok _, ⟨_, rfl⟩, q⟩
  | bl b =>
    cases ru
    refine PySem.P.repr_of_bool ⟨.str _, H, I.tok _, ⟨_, rfl⟩, ?_⟩
    have e : (PyData.bool b).shown = (if b then ("True" : Str) else "False") := by unfold PyData.shown; rfl
    rw [← e]
    exact q
  | str x =>
    obtain ⟨t, rfl⟩ := ru
    exact PySem.P.repr_of_str ⟨.str _, H, I.tok _, ⟨_, rfl⟩, q⟩ hz
end

/-! ### the end of a law whose def is so promised -/
section
variable {P : Program} {w : World} {K : PySem.W.Frag} {mg mb : Str → Option Value} {CX : CXT} {k : Nat} {fa a : Addr} {fd : FuncData} {x : Str} {sp : Sp} {s₁ : Shared} {vs : List Value} {ns : List Int}
/-- from an abstract heap H that tracks at most the script -/
theorem g_core (H : Hp) (KX : K.In s₁.heap) (hns : s₁.heap.Ns mainGlobals mg) (hb : s₁.heap.Ns builtinsNs mb) (hbb : ∀ x : Str, x ≠ "__name__" → mb x = bootBuiltins x) (hlim : s₁.heap.NoLimit) (hg : s₁.gens = #[])
    (ha : s₁.heap.get? a = some { cls := .type "list", data := .seq vs.toArray }) (hr : Room k callerA)
    (F : ∀ base : Heap, K.In base → base.Ns mainGlobals mg → GOk P w K mg base CX k fa fd [x] sp) (hbind : ∀ (s : Shared) (u : Value), BindsTo s fd ⟨[u], []⟩ [(x, u)])
    (hsp : sp [.ref a] H (fun v _ => v = .bl true) fun _ _ _ => False) (hCX : ∀ e s', CX [] H s₁ (fun _ _ _ => False) e s' → False)
    (hO : Only H) (hok : HOk P w H s₁.heap) (hA : ∀ b u, H b = some u → b = a ∧ K.lookup a = none) :
    codeAny (model P w) callerA (.call (.ref fa) ⟨[.ref a], []⟩) (fun r s' => r = .ok (.ret (.bool true)) ∧ PySem.OldK s₁.heap s'.heap ∧ s'.os = s₁.os ∧ AllBare s'.gens) s₁ := by
  have hid : ∀ {b : Addr} {o : Obj}, s₁.heap.get? b = some o → H b = none → (hidT s₁.heap H).get? b = some o := fun e n => hidT_get e n
  have un_d : ∀ {b : Addr} {o : Obj} {es : Array DictEntry} {ep : Nat}, s₁.heap.get? b = some o → o.data = .dict es ep → H b = none := by
    intro b o es ep e d
    cases q : H b with
    | none => rfl
    | some u =>
      rw [(hA b u q).1, ha] at e
      cases e
      exact nomatch d
  have ns_b : ∀ {b : Addr} {m : Str → Option Value}, s₁.heap.Ns b m → (hidT s₁.heap H).Ns b m := by
    rintro b m ⟨o, es, ep, e, d, r⟩
    exact ⟨o, es, ep, hid e (un_d e d), d, r⟩
  have k_b : K.In (hidT s₁.heap H) := by
    intro b o e
    refine hid (KX b o e) ?_
    cases q : H b with
    | none => rfl
    | some u =>
      obtain ⟨e1, e2⟩ := hA b u q
      rw [e1, e2] at e
      cases e
  have nl : (hidT s₁.heap H).NoLimit := let ⟨mc, h1, h2⟩ := hlim; ⟨mc, ns_b h1, h2⟩
  have e0 : Env0 P w K mg (hidT s₁.heap H) callerA [] s₁ H :=
    { frames := rfl, mod := ⟨k_b, ns_b hns, ⟨mb, ns_b hb, hbb⟩, nl⟩, bs := fun b o e => of_hidT e, bsz := Nat.le_of_eq (hidT_size _ _), funs := trivial,
      frf := fun b z => absurd (show b ∈ ([] : List Addr) from z) List.not_mem_nil, hok := hok, bare := .of_eq hg }
  refine codeAny_mono ((F _ k_b (ns_b hns)).go callerA [] s₁ H ⟨[.ref a], []⟩ [.ref a] [.ref a] _ _ rfl hr e0 (hbind s₁ (.ref a)) (.cons rfl .nil) hsp) fun r s' h => ?_
  cases r with
  | error e => exact (hCX e s' h).elim
  | ok fl =>
    cases fl with
    | next => exact False.elim h
    | brk => exact False.elim h
    | cont => exact False.elim h
    | ret u =>
      obtain ⟨v, H', os, bare, un, hok', r', q⟩ := h
      cases (show v = .bl true from q)
      cases (show u = Value.bool true from r')
      refine ⟨rfl, OldK.of_keep fun b o e => ?_, os, bare⟩
      cases q : H b with
      | none => exact un.keep b o e q (fun z => absurd (show b ∈ ([] : List Addr) from z) List.not_mem_nil) List.not_mem_nil
      | some u =>
        cases hO b with
        | inl z => exact nomatch q.symm.trans z
        | inr z =>
          obtain ⟨ob, xs, z⟩ := z
          obtain ⟨e1, _⟩ := hok b _ z
          cases e.symm.trans e1
          exact (hok' b _ (un.frzs b _ _ z)).1

theorem g_call (KX : K.In s₁.heap) (hns : s₁.heap.Ns mainGlobals mg) (hb : s₁.heap.Ns builtinsNs mb) (hbb : ∀ x : Str, x ≠ "__name__" → mb x = bootBuiltins x) (hlim : s₁.heap.NoLimit) (hg : s₁.gens = #[])
    (ha : s₁.heap.get? a = some { cls := .type "list", data := .seq vs.toArray }) (hi : IntsAre vs ns) (hl : ns.length ≤ sizeLine) (hr : Room k callerA)
    (F : ∀ base : Heap, K.In base → base.Ns mainGlobals mg → GOk P w K mg base CX k fa fd [x] sp) (hbind : ∀ (s : Shared) (u : Value), BindsTo s fd ⟨[u], []⟩ [(x, u)])
    (hsp : ∀ H : Hp, Only H → SqL K H a (ns.map V.int) → sp [.ref a] H (fun v _ => v = .bl true) fun _ _ _ => False)
    (hCX : ∀ H e s', CX [] H s₁ (fun _ _ _ => False) e s' → False) :
    codeAny (model P w) callerA (.call (.ref fa) ⟨[.ref a], []⟩) (fun r s' => r = .ok (.ret (.bool true)) ∧ PySem.OldK s₁.heap s'.heap ∧ s'.os = s₁.os ∧ AllBare s'.gens) s₁ := by
  have rv := vals_ints hi
  cases hk : K.lookup a with
  | some o =>
    cases ha.symm.trans (KX a o hk)
    have O : Only (fun _ => none : Hp) := fun _ => .inl rfl
    refine g_core (fun _ => none) KX hns hb hbb hlim hg ha hr F hbind (hsp _ O (.inr ?_)) (hCX _) O (fun b u z => nomatch (show (none : Option HO) = some u from z)) (fun b u z => nomatch (show (none : Option HO) = some u from z))
    exact ⟨_, vs.toArray, _, hk, rfl, rfl, rfl, by rw [List.size_toArray, hi.length]; exact hl, by simpa using rv⟩
  | none =>
    let sc : HO := .frz { cls := .type "list", data := .seq vs.toArray } (.lst (ns.map V.int))
    let H : Hp := fun b => if b = a then some sc else none
    have Ha : H a = some sc := if_pos rfl
    have Hb : ∀ b u, H b = some u → b = a ∧ u = sc := by
      intro b u z
      by_cases q : b = a
      · exact ⟨q, Option.some.inj (z.symm.trans (if_pos q))⟩
      · exact nomatch z.symm.trans (if_neg q)
    have O : Only H := by
      intro b
      by_cases q : b = a
      · exact .inr ⟨_, _, if_pos q⟩
      · exact .inl (if_neg q)
    refine g_core H KX hns hb hbb hlim hg ha hr F hbind (hsp H O (.inl (.inr ⟨_, Ha⟩))) (hCX H) O (fun b u z => ?_) (fun b u z => ⟨(Hb b u z).1, hk⟩)
    obtain ⟨rfl, rfl⟩ := Hb b u z
    exact ⟨ha, by rw [List.length_map]; exact hl, vs, _, rv, ha⟩
end

/-- the goal that k_head leaves of a law whose promise hangs on the written part alone -/
theorem g_walk {l : PySem.W.OpenLaw} {n k : Nat} {q : Program} {loose : List Str} {XP : (Str → Option Value) → Heap → Prop} {YP : World → Heap → Prop} {d : DefRec} {K : Params → PySem.W.Frag} {sp : PySem.W.Frag → Sp} {x : Str}
    (hn : l.most = some n) (hn2 : n ≤ sizeLine) (hdf : d.params.defaults = []) (hr : Room k callerA) (hY : ∀ (w : World) (h : Heap), YP w h → (K w.params).In h)
    (F : ∀ (w : World) (mg : Str → Option Value) (fa : Addr) (h : Heap), (K w.params).In h → h.Ns mainGlobals mg → mg d.name = some (.ref fa) →
      ∃ fd : FuncData, (∀ (s : Shared) (u : Value), BindsTo s fd ⟨[u], []⟩ [(x, u)]) ∧ ∀ base : Heap, (K w.params).In base → base.Ns mainGlobals mg → GOk l.prog w (K w.params) mg base CX0 k fa fd [x] (sp (K w.params)))
    (hsp : ∀ (K : PySem.W.Frag) (H : Hp) (a : Addr) (ns : List Int), ns.length ≤ n → Only H → SqL K H a (ns.map V.int) → sp K [.ref a] H (fun v _ => v = .bl true) fun _ _ _ => False) :
    PySem.W.WalkO q loose XP YP l.row.toRowW d [] (fun f vs => PySem.call f vs) := by
  refine Att.attach_call hn hdf ?_
  intro w s₀ s₁ mg mb fa o pm cd doc a vs ns G Y ho hd hcd hmg hobj hints hlen hg
  have KX := hY w _ Y
  obtain ⟨fd, hb, hF⟩ := F w mg fa _ KX G.T.g hmg
  exact g_call KX G.T.g G.T.b G.T.builtins G.T.nolimit hg hobj hints (Nat.le_trans hlen hn2) hr hF hb (fun H hO hS => hsp _ H a ns hlen hO hS) fun H e s' z => z
end Gd

set_option Elab.async false
set_option linter.all false
set_option maxRecDepth 100000
set_option maxHeartbeats 4000000
/-! More of our own: what evaluates to what, for chains, calls, texts; the draws of the laws. -/
namespace Gd
open PySem PySem.Spec PyProof.Rows L2 Evl
section
variable {K : PySem.W.Frag} {σ : L2.St} {H H' : Hp} {ta tb tc te : TE} {t u : TT} {x y z v : V} {r r' : R2}
theorem ev_chain {a b : Bool} {c : V} (ha : Ev ta σ H x) (hb : Ev tb σ H y) (hr : RV r x y H (.bl a)) (hc : a = true → Ev tc σ H c) (hr2 : a = true → RV r' y c H (.bl b)) :
    Ev (tChain r r' ta tb tc) σ H (.bl (a && b)) := fun H1 e Q q =>
  ha H1 e _ fun H2 e2 => hb H2 (e.trans e2) _ fun H3 e3 => hr H3 ((e.trans e2).trans e3) _ fun H4 e4 => ⟨a, rfl, by
    have e14 := (e2.trans e3).trans e4
    cases a with
    | true =>
      rw [if_pos rfl]
      exact hc rfl H4 (e.trans e14) _ fun H5 e5 => hr2 rfl H5 ((e.trans e14).trans e5) Q fun H6 e6 => q H6 ((e14.trans e5).trans e6)
    | false =>
      rw [if_neg Bool.false_ne_true]
      exact q H4 e14⟩
theorem rv_eqI {i j : Int} : RV rEq (.int i) (.int j) H (.bl (decide (i = j))) := by
  have h : RV rEq (.int i) (.int j) H (.bl (decide (V.int i = V.int j))) := rv_eq rfl
  have e : decide (V.int i = V.int j) = decide (i = j) := by
    by_cases h : i = j
    · rw [h, decide_eq_true rfl, decide_eq_true rfl]
    · rw [decide_eq_false h, decide_eq_false (fun q => h (V.int.inj q))]
  rw [← e]
  exact h
theorem rv_eqS {i j : Str} : RV rEq (.str i) (.str j) H (.bl (decide (i = j))) := by
  have h : RV rEq (.str i) (.str j) H (.bl (decide (V.str i = V.str j))) := rv_eq rfl
  have e : decide (V.str i = V.str j) = decide (i = j) := by
    by_cases h : i = j
    · rw [h, decide_eq_true rfl, decide_eq_true rfl]
    · rw [decide_eq_false h, decide_eq_false (fun q => h (V.str.inj q))]
  rw [← e]
  exact h
theorem rv_neS {i j : Str} : RV rNe (.str i) (.str j) H (.bl (!decide (i = j))) := by
  have h : RV rNe (.str i) (.str j) H (.bl (!decide (V.str i = V.str j))) := rv_ne rfl
  have e : decide (V.str i = V.str j) = decide (i = j) := by
    by_cases h : i = j
    · rw [h, decide_eq_true rfl, decide_eq_true rfl]
    · rw [decide_eq_false h, decide_eq_false (fun q => h (V.str.inj q))]
  rw [← e]
  exact h
theorem rv_neI {i j : Int} : RV rNe (.int i) (.int j) H (.bl (!decide (i = j))) := by
  have h : RV rNe (.int i) (.int j) H (.bl (!decide (V.int i = V.int j))) := rv_ne rfl
  have e : decide (V.int i = V.int j) = decide (i = j) := by
    by_cases h : i = j
    · rw [h, decide_eq_true rfl, decide_eq_true rfl]
    · rw [decide_eq_false h, decide_eq_false (fun q => h (V.int.inj q))]
  rw [← e]
  exact h
theorem rv_mod {i j : Int} (h : j ≠ 0) : RV (rI (fun _ j => j ≠ 0) fun i j => .int (i.fmod j)) (.int i) (.int j) H (.int (i.fmod j)) := rv_I h
theorem rv_fdiv {i j : Int} (h : j ≠ 0) (h2 : j.natAbs < 1073741824) : RV (rI CDivN fun i j => .int (i.fdiv j)) (.int i) (.int j) H (.int (i.fdiv j)) := rv_I ⟨h, h2⟩
theorem rv_mulR {i j : Int} (h : -(2 ^ 64) < j ∧ j < 2 ^ 64) : RV (rI CMul fun i j => .int (i * j)) (.int i) (.int j) H (.int (i * j)) := rv_I (.inr h)
theorem rv_mulL {i j : Int} (h : -(2 ^ 64) < i ∧ i < 2 ^ 64) : RV (rI CMul fun i j => .int (i * j)) (.int i) (.int j) H (.int (i * j)) := rv_I (.inl h)
theorem rv_pow {i j : Int} (h : 0 ≤ j ∧ j ≤ 1000000 ∧ i.natAbs < 2 ^ 64) : RV (rI CPow fun i j => .int (i ^ j.toNat)) (.int i) (.int j) H (.int (i ^ j.toNat)) := rv_I h
def rAddT : R2 := fun x y H Q => ∃ i j, x = .str i ∧ y = .str j ∧ i.length + j.length ≤ sizeLine ∧ Q (.str (i ++ j)) H
theorem rv_addS {i j : Str} (h : i.length + j.length ≤ 100000) : RV rAddT (.str i) (.str j) H (.str (i ++ j)) := fun H1 _ _ q => ⟨i, j, rfl, rfl, sz_of h, q H1 (Ex.refl H1)⟩
def rInt1 : List V → Hp → VK → Prop := fun xs H Q => (∃ i, xs = [.int i] ∧ Q (.int i) H) ∨ ∃ k, xs = [.bl k] ∧ Q (.int (if k then 1 else 0)) H
theorem rc_int {i : Int} : RC rInt1 [.int i] H (.int i) := fun H1 _ _ q => .inl ⟨i, rfl, q H1 (Ex.refl H1)⟩
theorem rc_intB {k : Bool} : RC rInt1 [.bl k] H (.int (if k then 1 else 0)) := fun H1 _ _ q => .inr ⟨k, rfl, q H1 (Ex.refl H1)⟩
def rOrd : List V → Hp → VK → Prop := fun xs H Q => ∃ x, xs = [.str x] ∧ x.length = 1 ∧ Q (.int (x.cps.getD 0 0 : Nat)) H
theorem rc_ord {c : Nat} : RC rOrd [.str ⟨#[c]⟩] H (.int (c : Int)) := fun H1 _ _ q => ⟨⟨#[c]⟩, rfl, rfl, q H1 (Ex.refl H1)⟩
def rLenT : List V → Hp → VK → Prop := fun xs H Q => ∃ x, xs = [.str x] ∧ x.length ≤ sizeLine ∧ Q (.int x.length) H
theorem rc_lenS {x : Str} (h : x.length ≤ 100000) : RC rLenT [.str x] H (.int x.length) := fun H1 _ _ q => ⟨x, rfl, sz_of h, q H1 (Ex.refl H1)⟩
theorem rc_repr {d : PyData} (hd : Dp K H v d) (hm : ∀ H1, Ex H H1 → Dp K H1 v d) (hs : d.showable = true) (hn : d.hasDict = false) (hp : d.depth ≤ 40) (hz : d.shown.length ≤ sizeLine) : RC (rRepr K) [v] H (.str d.shown) :=
  fun H1 e _ q => ⟨v, d, rfl, hm H1 e, hs, hn, hp, hz, q H1 (Ex.refl H1)⟩
theorem ev_sub {a : TE} {lo hi : TO} {i j : Option Int} {z : Str} (h : Ev a σ H (.str z)) (hl : EvO lo σ H i) (hh : EvO hi σ H j) (hz : z.length ≤ 100000) : Ev (tSl rSlS a lo hi) σ H (.str (cutS z i j)) := fun H1 e Q q =>
  h H1 e _ fun H2 e2 => hl H2 (e.trans e2) _ fun H3 e3 => hh H3 ((e.trans e2).trans e3) _ fun H4 e4 => ⟨z, rfl, sz_of hz, q H4 ((e2.trans e3).trans e4)⟩
end

/-! ### data of lists of ints -/
theorem dpAll_ints {K : PySem.W.Frag} {H : Hp} : ∀ ns : List Int, DpAll K H (ns.map V.int) (ns.map PyData.int)
  | [] => .nil
  | n :: r => .cons (.int n) (dpAll_ints r)
theorem dp_ints {K : PySem.W.Frag} {H : Hp} {a : Addr} {ns : List Int} (h : SqL K H a (ns.map V.int)) : Dp K H (.ref a) (.list (ns.map PyData.int)) := .lst h (dpAll_ints ns)
theorem showAll_ints : ∀ (ns : List Int), (∀ n ∈ ns, n.natAbs.log2 < 1920) → PyData.showableAll (ns.map PyData.int) = true
  | [], _ => by simp [PyData.showableAll]
  | n :: r, h => by
    rw [List.map_cons, PyData.showableAll, PyData.showable, decide_eq_true (h n List.mem_cons_self), showAll_ints r fun m hm => h m (List.mem_cons_of_mem _ hm)]
    rfl
theorem noDict_ints : ∀ ns : List Int, PyData.hasDictAll (ns.map PyData.int) = false
  | [] => by simp [PyData.hasDictAll]
  | n :: r => by
    rw [List.map_cons, PyData.hasDictAll, noDict_ints r, PyData.hasDict]
    rfl
theorem depthAll_ints : ∀ ns : List Int, PyData.depthAll (ns.map PyData.int) ≤ 1
  | [] => by simp [PyData.depthAll]
  | n :: r => by
    rw [List.map_cons, PyData.depthAll, PyData.depth]
    have := depthAll_ints r
    omega

/-! ### the script's cells -/
def cellN (ns : List Int) (k : Nat) : Int := ns.getD k 0

/-! ### comprehensions without a test: items mapped -/
section
variable {K : PySem.W.Frag} {σ : L2.St} {H H1 : Hp} {te tl : TE} {vs : List Nat} {j : Nat}
theorem take_snoc {α : Type} {l : List α} {i : Nat} {x : α} (h : l[i]? = some x) : l.take (i + 1) = l.take i ++ [x] := by
  rw [List.take_add_one, h]
  rfl
theorem lc_map {J : It} {G : Hp → Prop} {Y : Nat → Hp → V → Hp → Prop} {xs : List V} {D : Addr} {Qd : Hp → Prop} (w : Walk J xs.length G Y) (hY : ∀ i H x H', i < xs.length → Y i H x H' → H' = H ∧ xs[i]? = some x)
    (hz : xs.length ≤ 90000) (hw : ∀ x, wipe ((wipe σ vs).set j (some x)) vs = wipe σ vs) (f : V → V) (hG : ∀ H', Ex H1 H' → G H') (he : ∀ x ∈ xs, ∀ H', Ex H1 H' → Ev te ((wipe σ vs).set j (some x)) H' (f x)) (hD : H1 D = none)
    (k : ∀ H', Ex H1 H' → H' D = some (.lst (xs.map f)) → Qd H') :
    ∃ W : Nat → Nat → Hp → Prop, (∃ m, W 0 m (upd H1 D (.lst []))) ∧ ∀ i m H, W i m H →
      (J.stop i H ∧ Qd H) ∨ (J.go i H ∧ ∃ Nx : Hp → Prop, (∀ H', Nx H' → ∃ m', m' < m ∧ W (i + 1) m' H') ∧ ∀ x H', J.yld i H x H' → gName j x (wipe σ vs) H' fun σ2 H2 => wipe σ2 vs = wipe σ vs ∧ tYes σ2 H2 fun b H3 =>
        if b = true then te σ2 H3 fun y H4 => ∃ acc, H4 D = some (.lst acc) ∧ acc.length < sizeLine ∧ Nx (upd H4 D (.lst (acc ++ [y]))) else Nx H3) := by
  refine lc_it w (fun i H' => Ex H1 H' ∧ H' D = some (.lst ((xs.take i).map f))) ⟨Ex.new hD, upd_same⟩ (fun i H' _ p => hG H' p.1) ?_ (fun H' p => k H' p.1 (by rw [p.2, List.take_length]))
  intro i x H2 H3 hi p y
  obtain ⟨e, hx⟩ := hY i H2 x H3 hi y
  subst e
  obtain ⟨p1, p2⟩ := p
  refine ⟨hw x, ?_⟩
  dsimp only [tYes]
  rw [if_pos rfl]
  refine he x (List.mem_of_getElem? hx) H3 p1 H3 (Ex.refl H3) _ fun H4 e4 => ⟨(xs.take i).map f, e4 D _ p2, sz_lt (by rw [List.length_map, List.length_take]; omega), Ex.mut (p1.trans e4) hD, ?_⟩
  rw [upd_same, take_snoc hx, List.map_append]
  rfl
theorem el_mapL {a : Addr} {xs : List V} (f : V → V) (h : Ev tl σ H (.ref a)) (hx : SqL K H a xs) (hz : xs.length ≤ 90000) (hw : ∀ x, wipe ((wipe σ vs).set j (some x)) vs = wipe σ vs)
    (he : ∀ x ∈ xs, ∀ H1, Ex H H1 → Ev te ((wipe σ vs).set j (some x)) H1 (f x)) : EvL (tLc (iList K tl) (gName j) tYes te vs) σ H (xs.map f) := fun H0 e Q q =>
  h H0 e _ fun H1 e1 => ⟨a, rfl, ⟨xs, ex_l (e.trans e1) hx⟩, fun D hD => lc_map walk_list (fun _ _ _ _ _ y => y) hz hw f (fun H' e' => ex_l ((e.trans e1).trans e') hx) (fun x m H' e' => he x m H' ((e.trans e1).trans e')) hD
    (fun H' e' hd => q D H' (fresh_back e1 hD) (e1.trans e') hd)⟩
theorem el_mapNL {xs : List V} (f : V → V) (h : EvL tl σ H xs) (hz : xs.length ≤ 90000) (hw : ∀ x, wipe ((wipe σ vs).set j (some x)) vs = wipe σ vs)
    (he : ∀ x ∈ xs, ∀ H1, Ex H H1 → Ev te ((wipe σ vs).set j (some x)) H1 (f x)) : EvL (tLc (iList K tl) (gName j) tYes te vs) σ H (xs.map f) := fun H0 e Q q =>
  h H0 e _ fun a H1 _ e1 ha => ⟨a, rfl, ⟨xs, sq_of ha⟩, fun D hD => lc_map walk_list (fun _ _ _ _ _ y => y) hz hw f (fun H' e' => sq_of (e' a _ ha)) (fun x m H' e' => he x m H' ((e.trans e1).trans e')) hD
    (fun H' e' hd => q D H' (fresh_back e1 hD) (e1.trans e') hd)⟩
def sgns (z : Str) : List V := z.cps.toList.map fun c => V.str ⟨#[c]⟩
theorem sgns_at {z : Str} {i c : Nat} (h : z.cps[i]? = some c) : (sgns z)[i]? = some (.str ⟨#[c]⟩) := by
  unfold sgns
  rw [List.getElem?_map, Array.getElem?_toList, h]
  rfl
theorem sgns_len (z : Str) : (sgns z).length = z.cps.size := by
  unfold sgns
  rw [List.length_map, Array.length_toList]
theorem walk_signs (z : Str) : Walk (Its z) (sgns z).length (fun _ => True) (YAt (sgns z)) := by
  rw [sgns_len]
  exact walk_str.mono (fun _ h => h) fun i H x H' _ _ y => by
    obtain ⟨e, c, hc, rfl⟩ := y
    exact ⟨e, sgns_at hc⟩
theorem el_mapS {z : Str} (f : V → V) (h : Ev tl σ H (.str z)) (hz : z.cps.size ≤ 90000) (hw : ∀ x, wipe ((wipe σ vs).set j (some x)) vs = wipe σ vs)
    (he : ∀ c ∈ z.cps.toList, ∀ H1, Ex H H1 → Ev te ((wipe σ vs).set j (some (.str ⟨#[c]⟩))) H1 (f (.str ⟨#[c]⟩))) : EvL (tLc (iStr tl) (gName j) tYes te vs) σ H ((sgns z).map f) := fun H0 e Q q =>
  h H0 e _ fun H1 e1 => ⟨z, rfl, fun D hD => lc_map (walk_signs z) (fun _ _ _ _ _ y => y) (by rw [sgns_len]; exact hz) hw f (fun _ _ => trivial) (fun x m H' e' => by
    obtain ⟨c, hc, rfl⟩ := List.mem_map.mp m
    exact he c hc H' ((e.trans e1).trans e')) hD (fun H' e' hd => q D H' (fresh_back e1 hD) (e1.trans e') hd)⟩
end

/-! ### join, repr, str(..) -/
section
variable {K : PySem.W.Frag} {σ : L2.St} {H H1 : Hp} {te tl to : TE}
def rJoinT (K : PySem.W.Frag) : V → List V → Hp → VK → Prop := fun x xs H Q => ∃ a p, ∃ ys : List Str, x = .str a ∧ xs = [.ref p] ∧ (SqL K H p (ys.map V.str) ∨ SqT K H p (ys.map V.str)) ∧
      (ys.map (·.length)).sum + ys.length * a.length ≤ 16777216 ∧ Q (.str (Txt.join a ys)) H
theorem ev_joinL {a : Str} {ys : List Str} (ho : Ev to σ H (.str a)) (h : EvL te σ H (ys.map V.str)) (hz : (ys.map (·.length)).sum + ys.length * a.length ≤ 16777216) : Ev (tM1 (rJoinT K) to te) σ H (.str (Txt.join a ys)) := fun H0 e Q q =>
  ho H0 e _ fun H1 e1 => ⟨⟨a, rfl⟩, h H1 (e.trans e1) _ fun p H2 _ e2 hp => ⟨a, p, ys, rfl, rfl, .inl (sq_of hp), hz, q H2 (e1.trans e2)⟩⟩
theorem joinE (ys : List Str) : (Txt.join "" ys).cps.toList = (ys.map fun y => y.cps.toList).flatten := by
  have h : ∀ l : List (List Nat), TL.joinL [] l = l.flatten := by
    intro l
    induction l with
    | nil => rfl
    | cons p r ih =>
      cases r with
      | nil => simp [TL.joinL]
      | cons q r => rw [TL.joinL, ih]; rfl
  rw [TL.join_eq]
  show TL.tl _ = _
  rw [TL.tl_join]
  exact h _
theorem show_le {ns : List Int} (hl : ns.length ≤ 1000) (hb : ∀ n ∈ ns, n.natAbs < 10 ^ 100) : (PyData.list (ns.map PyData.int)).shown.length ≤ sizeLine := by
  have hs : PyData.leavesShort 101 (.list (ns.map PyData.int)) = true := by
    unfold PyData.leavesShort
    clear hl
    induction ns with
    | nil => simp [PyData.leavesShortAll]
    | cons n r ih =>
      rw [List.map_cons, PyData.leavesShortAll, ih fun m hm => hb m (List.mem_cons_of_mem _ hm), Bool.and_true, PyData.leavesShort]
      refine decide_eq_true ?_
      unfold PyData.shown
      have h := int_text_length_le10 (k := 100) (by decide) (hb n List.mem_cons_self)
      have e : (Str.ofString (toString n)).length = (toString n).length := PySem.ofString_length _
      show (Str.ofString (toString n)).length ≤ 101
      rw [e]
      exact h
  have hk := PyData.shown_le_bulk 101 (by decide) _ hs
  have hb2 : (PyData.list (ns.map PyData.int)).bulk = ns.length := by
    unfold PyData.bulk
    clear hs hk hl hb
    induction ns with
    | nil => simp [PyData.bulkAll]
    | cons n r ih =>
      rw [List.map_cons, PyData.bulkAll, PyData.bulk, ih, List.length_cons]
      omega
  rw [hb2] at hk
  rw [sizeLine_eq]
  omega
set_option exponentiation.threshold 3000 in
theorem pow_small : 10 ^ 100 ≤ 2 ^ 1920 := by decide +kernel
set_option exponentiation.threshold 3000 in
theorem log_lt {n : Int} (h : n.natAbs < 10 ^ 100) : n.natAbs.log2 < 1920 := by
  by_cases h0 : n.natAbs = 0
  · rw [h0]; decide
  · exact (Nat.log2_lt h0).mpr (Nat.lt_of_lt_of_le h pow_small)
theorem ev_reprI {a : Addr} {ns : List Int} (h : Ev te σ H (.ref a)) (hx : SqL K H a (ns.map V.int)) (hl : ns.length ≤ 1000) (hb : ∀ n ∈ ns, n.natAbs < 10 ^ 100) :
    Ev (tCB (rRepr K) (tCons te tNil)) σ H (.str (PyData.list (ns.map PyData.int)).shown) :=
  ev_cb (ea_cons h ea_nil) fun H1 e _ q => ⟨.ref a, .list (ns.map PyData.int), rfl, dp_ints (ex_l e hx), by
    rw [PyData.showable]
    exact showAll_ints ns fun n hn => log_lt (hb n hn), by
    rw [PyData.hasDict]
    exact noDict_ints ns, by
    rw [PyData.depth]
    have := depthAll_ints ns
    omega, show_le hl hb, q H1 (Ex.refl H1)⟩
end

/-! ### what is known behind a statement -/
theorem q_mid {t u : TS} {D : Ends} {σ : L2.St} {H : Hp} (M : L2.St → Hp → Prop) (mono : ∀ (N N' : L2.St → Hp → Prop), (∀ σ H, N σ H → N' σ H) → t { D with nx := N } σ H → t { D with nx := N' } σ H)
    (h : t { D with nx := M } σ H) (k : ∀ σ' H', M σ' H' → u D σ' H') : tSeq t u D σ H := mono M (u D) k h

/-! ### isinstance -/
section
variable {K : PySem.W.Frag} {H : Hp}
theorem rc_isStr {x : Str} : RC (rIsi K) [.str x, .ty "str"] H (.bl true) := fun H1 _ _ q => ⟨_, _, _, _, true, rfl, .ty "str", .base (.str x), kit_ty (by decide +kernel), q H1 (Ex.refl H1)⟩
theorem rc_isInt {i : Int} : RC (rIsi K) [.int i, .ty "int"] H (.bl true) := fun H1 _ _ q => ⟨_, _, _, _, true, rfl, .ty "int", .base (.int i), kit_ty (by decide +kernel), q H1 (Ex.refl H1)⟩
theorem rc_isIntB {i : Int} : RC (rIsi K) [.int i, .ty "bool"] H (.bl false) := fun H1 _ _ q => ⟨_, _, _, _, false, rfl, .ty "bool", .base (.int i), kit_ty (by decide +kernel), q H1 (Ex.refl H1)⟩
theorem rc_isNonS : RC (rIsi K) [.non, .ty "str"] H (.bl false) := fun H1 _ _ q => ⟨_, _, _, _, false, rfl, .ty "str", .base .non, kit_ty (by decide +kernel), q H1 (Ex.refl H1)⟩
/-- isinstance of the error that a suite holds: its class is asked in the reading -/
def rIsX (K : PySem.W.Frag) (D a : Addr) (cls : Value) (d : Option Addr) : List V → Hp → VK → Prop := fun xs H Q => cls = .ref D ∧ d = none ∧ rIsE K D a xs H Q
theorem call_isX {X : Cx} {a D : Addr} {oe : Obj} {pn : List (Addr × Obj)} {cls : Value} {d : Option Addr} (C : ExcC X.K D) (hz : Zc cls d oe) (hf : ∃ vs, oe.data = .fields vs) : CallR (X.suite a ((a, oe) :: pn)) (.builtin "isinstance") (rIsX X.K D a cls d) := by
  intro pins s σ H xs us Q I r h
  obtain ⟨rfl, rfl, h⟩ := h
  exact call_isE C hz hf pins s σ H xs us Q I r h
theorem rc_isX {D a : Addr} {c : V} {cv : Value} {b : Bool} (hc : ∀ u, RelV c u → u = cv) (hk : PySem.W.kitOne K (.ref D) cv = some b) : RC (rIsX K D a (.ref D) none) [.ref a, c] H (.bl b) := fun H1 _ _ q => ⟨rfl, rfl, c, cv, b, rfl, hc, hk, q H1 (Ex.refl H1)⟩
end

/-! ### the draws of the laws: a cell's values -/
def lvMix (cell size : Int) (k : Nat) : Int := ((((cell.fmod 2147483647) * 48271 + (k : Int) * 69621 + 7).fmod 2147483647 * 16807).fmod 2147483647).fmod size
def lvStep (cell size : Int) (st : Int × List Int) (k : Nat) : Int × List Int :=
  if st.1 ≥ 10 ^ 12 then (st.1.fdiv size, st.2 ++ [st.1.fmod size]) else (st.1, st.2 ++ [lvMix cell size k])
def lvGo (cell size : Int) (n : Nat) : Int × List Int := (List.range n).foldl (lvStep cell size) (cell, [])
theorem lvGo_succ (cell size : Int) (n : Nat) : lvGo cell size (n + 1) = lvStep cell size (lvGo cell size n) n := by
  unfold lvGo
  rw [List.range_succ, List.foldl_append]
  rfl
/-- what _law_values gives -/
def lvals (cell : Int) (n : Nat) (size : Int) : List Int := (lvGo cell size n).2
theorem lvStep_len (cell size : Int) (st : Int × List Int) (k : Nat) : (lvStep cell size st k).2.length = st.2.length + 1 := by
  unfold lvStep
  split <;> simp
theorem lvals_len (cell : Int) (n : Nat) (size : Int) : (lvals cell n size).length = n := by
  unfold lvals
  induction n with
  | zero => rfl
  | succ n ih => rw [lvGo_succ, lvStep_len, ih]
theorem lvals_in {cell size : Int} (h : 0 < size) (n : Nat) : ∀ v ∈ lvals cell n size, 0 ≤ v ∧ v < size := by
  unfold lvals
  induction n with
  | zero => intro v hv; exact absurd hv List.not_mem_nil
  | succ n ih =>
    intro v hv
    rw [lvGo_succ] at hv
    unfold lvStep lvMix at hv
    have key : ∀ x : Int, 0 ≤ x.fmod size ∧ x.fmod size < size := fun x => ⟨Int.fmod_nonneg_of_pos x h, Int.fmod_lt_of_pos x h⟩
    split at hv
    · rcases List.mem_append.mp hv with q | q
      · exact ih v q
      · rw [List.mem_singleton.mp q]; exact key _
    · rcases List.mem_append.mp hv with q | q
      · exact ih v q
      · rw [List.mem_singleton.mp q]; exact key _

/-! ### texts and their codes -/
theorem map_at {α β : Type} {f : α → β} {l : List α} {i : Nat} {x : β} (h : (l.map f)[i]? = some x) : ∃ c, l[i]? = some c ∧ x = f c := by
  rw [List.getElem?_map] at h
  cases e : l[i]? with
  | none => rw [e] at h; cases h
  | some c => rw [e] at h; exact ⟨c, rfl, (Option.some.inj h).symm⟩
theorem sgns_map (z : Str) (f : V → V) : (sgns z).map f = z.cps.toList.map fun c => f (.str ⟨#[c]⟩) := by
  unfold sgns
  rw [List.map_map]
  rfl
theorem app_toList (x y : Str) : (x ++ y).cps.toList = x.cps.toList ++ y.cps.toList := TL.tl_append x y
theorem len_size (x : Str) : x.length = x.cps.toList.length := by simp [Str.length]
theorem str_ext {x y : Str} (h : x.cps.toList = y.cps.toList) : x = y := by
  cases x; cases y
  congr
  exact Array.toList_inj.mp h
end Gd

set_option Elab.async false
set_option linter.all false
set_option maxRecDepth 100000
set_option maxHeartbeats 4000000
namespace K00
open PySem PySem.Spec PyProof.Rows L2 Evl Gd
/-! ### the text -/
def topS (i : Nat) : Stmt := PySem.Challenge.pw_plinth_k00_codes_of_a_text.main.body.getD i (.Pass ⟨0, 0, 0, 0⟩)
abbrev s_is_character : Stmt := topS 9
abbrev N_is_character : List Str := ["code"]
theorem sc_is_character : FnScope N_is_character ["code"] (defScope s_is_character) := ⟨rfl, rfl, rfl, by decide +kernel, rfl, by decide +kernel, by decide +kernel⟩
abbrev s_codes_of : Stmt := topS 10
abbrev N_codes_of : List Str := ["text", "codes", "character", "code"]
theorem sc_codes_of : FnScope N_codes_of ["text"] (defScope s_codes_of) := ⟨rfl, rfl, rfl, by decide +kernel, rfl, by decide +kernel, by decide +kernel⟩
abbrev s_character : Stmt := topS 11
abbrev N_character : List Str := ["code"]
theorem sc_character : FnScope N_character ["code"] (defScope s_character) := ⟨rfl, rfl, rfl, by decide +kernel, rfl, by decide +kernel, by decide +kernel⟩
abbrev s_text_of : Stmt := topS 12
abbrev N_text_of : List Str := ["codes", "code"]
theorem sc_text_of : FnScope N_text_of ["codes"] (defScope s_text_of) := ⟨rfl, rfl, rfl, by decide +kernel, rfl, by decide +kernel, by decide +kernel⟩
abbrev s_law_cell : Stmt := topS 14
abbrev N_law_cell : List Str := ["script", "k"]
theorem sc_law_cell : FnScope N_law_cell ["script", "k"] (defScope s_law_cell) := ⟨rfl, rfl, rfl, by decide +kernel, rfl, by decide +kernel, by decide +kernel⟩
abbrev s_law_values : Stmt := topS 15
abbrev N_law_values : List Str := ["cell", "count", "size", "values", "rest", "k", "mixed"]
theorem sc_law_values : FnScope N_law_values ["cell", "count", "size"] (defScope s_law_values) := ⟨rfl, rfl, rfl, by decide +kernel, rfl, by decide +kernel, by decide +kernel⟩
abbrev s_law_chars : Stmt := topS 16
abbrev N_law_chars : List Str := ["chars"]
theorem sc_law_chars : FnScope N_law_chars [] (defScope s_law_chars) := ⟨rfl, rfl, rfl, by decide +kernel, rfl, by decide +kernel, by decide +kernel⟩
abbrev s_law_code : Stmt := topS 17
abbrev N_law_code : List Str := ["char", "chars", "at"]
theorem sc_law_code : FnScope N_law_code ["char"] (defScope s_law_code) := ⟨rfl, rfl, rfl, by decide +kernel, rfl, by decide +kernel, by decide +kernel⟩
abbrev s_law_refuses : Stmt := topS 18
abbrev N_law_refuses : List Str := ["text", "e"]
theorem sc_law_refuses : FnScope N_law_refuses ["text"] (defScope s_law_refuses) := ⟨rfl, rfl, rfl, by decide +kernel, rfl, by decide +kernel, by decide +kernel⟩
abbrev s_law_refuses_base : Stmt := topS 19
abbrev N_law_refuses_base : List Str := ["text"]
theorem sc_law_refuses_base : FnScope N_law_refuses_base ["text"] (defScope s_law_refuses_base) := ⟨rfl, rfl, rfl, by decide +kernel, rfl, by decide +kernel, by decide +kernel⟩
abbrev s_law : Stmt := topS 20
abbrev N_law : List Str := ["script", "size", "chars", "text", "value", "codes", "char", "at", "bad", "actual", "back"]
theorem sc_law : FnScope N_law ["script"] (defScope s_law) := ⟨rfl, rfl, rfl, by decide +kernel, rfl, by decide +kernel, by decide +kernel⟩
abbrev str_FROM_AMPERSAND : Str := "&'()*+,-./0123456789:;<=>?@ABCDEFGHIJKLMNOPQRSTUVWXYZ[\\]^_`abcdefghijklmnopqrstuvwxyz{|}~"
abbrev str_FROM_SPACE : Str := " !\"#$"
/-! ### what the top has written -/
structure Txt (K : PySem.W.Frag) (mg : Str → Option Value) where
  f_is_character : Addr
  d_is_character : FuncData
  F_is_character : Fun K "is_character" "is_character" s_is_character f_is_character d_is_character
  b_is_character : Binds K d_is_character ["code"] []
  g_is_character : mg "is_character" = some (.ref f_is_character)
  f_codes_of : Addr
  d_codes_of : FuncData
  F_codes_of : Fun K "codes_of" "codes_of" s_codes_of f_codes_of d_codes_of
  b_codes_of : Binds K d_codes_of ["text"] []
  g_codes_of : mg "codes_of" = some (.ref f_codes_of)
  f_character : Addr
  d_character : FuncData
  F_character : Fun K "_character" "_character" s_character f_character d_character
  b_character : Binds K d_character ["code"] []
  g_character : mg "_character" = some (.ref f_character)
  f_text_of : Addr
  d_text_of : FuncData
  F_text_of : Fun K "text_of" "text_of" s_text_of f_text_of d_text_of
  b_text_of : Binds K d_text_of ["codes"] []
  g_text_of : mg "text_of" = some (.ref f_text_of)
  f_law_cell : Addr
  d_law_cell : FuncData
  F_law_cell : Fun K "_law_cell" "_law_cell" s_law_cell f_law_cell d_law_cell
  b_law_cell : Binds K d_law_cell ["script", "k"] []
  g_law_cell : mg "_law_cell" = some (.ref f_law_cell)
  f_law_values : Addr
  d_law_values : FuncData
  F_law_values : Fun K "_law_values" "_law_values" s_law_values f_law_values d_law_values
  b_law_values : Binds K d_law_values ["cell", "count", "size"] []
  g_law_values : mg "_law_values" = some (.ref f_law_values)
  f_law_chars : Addr
  d_law_chars : FuncData
  F_law_chars : Fun K "_law_chars" "_law_chars" s_law_chars f_law_chars d_law_chars
  b_law_chars : Binds K d_law_chars [] []
  g_law_chars : mg "_law_chars" = some (.ref f_law_chars)
  f_law_code : Addr
  d_law_code : FuncData
  F_law_code : Fun K "_law_code" "_law_code" s_law_code f_law_code d_law_code
  b_law_code : Binds K d_law_code ["char"] []
  g_law_code : mg "_law_code" = some (.ref f_law_code)
  f_law_refuses : Addr
  d_law_refuses : FuncData
  F_law_refuses : Fun K "_law_refuses" "_law_refuses" s_law_refuses f_law_refuses d_law_refuses
  b_law_refuses : Binds K d_law_refuses ["text"] []
  g_law_refuses : mg "_law_refuses" = some (.ref f_law_refuses)
  f_law_refuses_base : Addr
  d_law_refuses_base : FuncData
  F_law_refuses_base : Fun K "_law_refuses_base" "_law_refuses_base" s_law_refuses_base f_law_refuses_base d_law_refuses_base
  b_law_refuses_base : Binds K d_law_refuses_base ["text"] []
  g_law_refuses_base : mg "_law_refuses_base" = some (.ref f_law_refuses_base)
  f_law : Addr
  d_law : FuncData
  F_law : Fun K "law" "law" s_law f_law d_law
  b_law : Binds K d_law ["script"] []
  g_law : mg "law" = some (.ref f_law)
  h_law : ∀ (s : Shared) (v : Value), BindsTo s d_law ⟨[v], []⟩ [("script", v)]
  C_PlinthError : Addr
  g_PlinthError : mg "PlinthError" = some (.ref C_PlinthError)
  k_PlinthError : PySem.W.keepIn K (.ref C_PlinthError) = true
  x_PlinthError : PySem.W.excIn K C_PlinthError [.type "ValueError", .type "Exception", .type "BaseException", .type "object"] "ValueError.__new__" = true
  b_PlinthError : PySem.W.subIn K (.ref C_PlinthError) (.type "BaseException") = some true
  t_PlinthError : PySem.W.typeIn K (.ref C_PlinthError) = some (.type "type")
  hd_PlinthError : PySem.W.hasDictIn K C_PlinthError = true
  s_PlinthError : PySem.W.subIn K (.ref C_PlinthError) (.ref C_PlinthError) = some true
  i_PlinthError : PySem.W.isClsIn K C_PlinthError = true
  C_NotText : Addr
  g_NotText : mg "NotText" = some (.ref C_NotText)
  k_NotText : PySem.W.keepIn K (.ref C_NotText) = true
  x_NotText : PySem.W.excIn K C_NotText [.type "ValueError", .type "Exception", .type "BaseException", .type "object"] "ValueError.__new__" = true
  b_NotText : PySem.W.subIn K (.ref C_NotText) (.type "BaseException") = some true
  t_NotText : PySem.W.typeIn K (.ref C_NotText) = some (.type "type")
  hd_NotText : PySem.W.hasDictIn K C_NotText = true
  s_NotText : PySem.W.subIn K (.ref C_NotText) (.ref C_NotText) = some true
  i_NotText : PySem.W.isClsIn K C_NotText = true
  ga_NotText : PySem.W.findIn K (.ref C_NotText) "__getattribute__" = some (some (.builtin "BaseException.__getattribute__"))
  gg_NotText : PySem.W.findIn K (.ref C_NotText) "__getattr__" = some none
  gc_NotText : PySem.W.findIn K (.ref C_NotText) "__class__" = some (some (.builtin "object.__class__"))
  gs_NotText : PySem.W.specialIn K (.builtin "object.__class__") "__get__" = some (some (.builtin "getset_descriptor.__get__"))
  gt_NotText : PySem.W.takesIn K (.builtin "object.__class__") = some true
  gm_NotText : PySem.W.mroIn K C_NotText (.type "object") = some true
  C_NotNumeral : Addr
  g_NotNumeral : mg "NotNumeral" = some (.ref C_NotNumeral)
  k_NotNumeral : PySem.W.keepIn K (.ref C_NotNumeral) = true
  x_NotNumeral : PySem.W.excIn K C_NotNumeral [.type "ValueError", .type "Exception", .type "BaseException", .type "object"] "ValueError.__new__" = true
  b_NotNumeral : PySem.W.subIn K (.ref C_NotNumeral) (.type "BaseException") = some true
  t_NotNumeral : PySem.W.typeIn K (.ref C_NotNumeral) = some (.type "type")
  hd_NotNumeral : PySem.W.hasDictIn K C_NotNumeral = true
  s_NotNumeral : PySem.W.subIn K (.ref C_NotNumeral) (.ref C_NotNumeral) = some true
  i_NotNumeral : PySem.W.isClsIn K C_NotNumeral = true
  C_BadFuel : Addr
  g_BadFuel : mg "BadFuel" = some (.ref C_BadFuel)
  k_BadFuel : PySem.W.keepIn K (.ref C_BadFuel) = true
  x_BadFuel : PySem.W.excIn K C_BadFuel [.type "ValueError", .type "Exception", .type "BaseException", .type "object"] "ValueError.__new__" = true
  b_BadFuel : PySem.W.subIn K (.ref C_BadFuel) (.type "BaseException") = some true
  t_BadFuel : PySem.W.typeIn K (.ref C_BadFuel) = some (.type "type")
  hd_BadFuel : PySem.W.hasDictIn K C_BadFuel = true
  s_BadFuel : PySem.W.subIn K (.ref C_BadFuel) (.ref C_BadFuel) = some true
  i_BadFuel : PySem.W.isClsIn K C_BadFuel = true
  sub_NotText_PlinthError : PySem.W.subIn K (.ref C_NotText) (.ref C_PlinthError) = some true
  kit_NotText_ValueError : PySem.W.kitOne K (.ref C_NotText) (.type "ValueError") = some true
  kit_NotText_NotNumeral : PySem.W.kitOne K (.ref C_NotText) (.ref C_NotNumeral) = some false
  kit_NotText_BadFuel : PySem.W.kitOne K (.ref C_NotText) (.ref C_BadFuel) = some false
  t_NEWLINE : Tok
  c_NEWLINE : mg "NEWLINE" = some (.int 10 t_NEWLINE)
  t_FROM_AMPERSAND : Tok
  c_FROM_AMPERSAND : mg "_FROM_AMPERSAND" = some (.str str_FROM_AMPERSAND t_FROM_AMPERSAND)
  t_FROM_SPACE : Tok
  c_FROM_SPACE : mg "_FROM_SPACE" = some (.str str_FROM_SPACE t_FROM_SPACE)
  n_ValueError : mg "ValueError" = none
  n_int : mg "int" = none
  n_isinstance : mg "isinstance" = none
  n_len : mg "len" = none
  n_ord : mg "ord" = none
  n_range : mg "range" = none
  n_repr : mg "repr" = none
  n_str : mg "str" = none
/-! ### how expressions are evaluated, without a word of ours -/
local macro_rules | `(tactic| walk_at "ev") => `(tactic| exact ev_c)
local macro_rules | `(tactic| walk_at "ev") => `(tactic| exact ev_var rfl)
local macro_rules | `(tactic| walk_at "ev") => `(tactic| (refine' ev_op ?k1 ?k2 ?k3; (case k1 => walk_at "ev"); (case k2 => walk_at "ev"); (case k3 => walk_at "rv")))
local macro_rules | `(tactic| walk_at "ev") => `(tactic| (refine' ev_cb ?k1 ?k2; (case k1 => walk_at "ea"); (case k2 => walk_at "rc")))
local macro_rules | `(tactic| walk_at "ev") => `(tactic| (refine' ev_call ?k1 ?k2; (case k1 => walk_at "ea"); (case k2 => walk_at "sp")))
local macro_rules | `(tactic| walk_at "ev") => `(tactic| (refine' ev_chain ?k1 ?k2 ?k3 (fun _ => ?k4) (fun _ => ?k5); (case k1 => walk_at "ev"); (case k2 => walk_at "ev"); (case k3 => walk_at "rv"); (case k4 => walk_at "ev"); (case k5 => walk_at "rv")))
local macro_rules | `(tactic| walk_at "ev") => `(tactic| (refine' ev_orV ?k1 (fun _ => ?k2); (case k1 => walk_at "ev"); (case k2 => walk_at "ev")))
local macro_rules | `(tactic| walk_at "ev") => `(tactic| (refine' ev_andV ?k1 (fun _ => ?k2); (case k1 => walk_at "ev"); (case k2 => walk_at "ev")))
local macro_rules | `(tactic| walk_at "ev") => `(tactic| (refine' ev_notV ?k1; (case k1 => walk_at "ev")))
local macro_rules | `(tactic| walk_at "ea") => `(tactic| exact ea_nil)
local macro_rules | `(tactic| walk_at "ea") => `(tactic| (refine' ea_cons ?k1 ?k2; (case k1 => walk_at "ev"); (case k2 => walk_at "ea")))
local macro_rules | `(tactic| walk_at "rv") => `(tactic| exact rv_I0)
local macro_rules | `(tactic| walk_at "rv") => `(tactic| exact rv_eqI)
local macro_rules | `(tactic| walk_at "rv") => `(tactic| exact rv_neI)
local macro_rules | `(tactic| walk_at "rv") => `(tactic| exact rv_eqS)
local macro_rules | `(tactic| walk_at "rv") => `(tactic| exact rv_neS)
local macro_rules | `(tactic| walk_at "rv") => `(tactic| exact rv_mod (by decide))
local macro_rules | `(tactic| walk_at "rv") => `(tactic| exact rv_fdiv (by decide) (by decide))
local macro_rules | `(tactic| walk_at "rv") => `(tactic| exact rv_mulR (by decide))
local macro_rules | `(tactic| walk_at "rv") => `(tactic| exact rv_pow (by decide))
local macro_rules | `(tactic| walk_at "rc") => `(tactic| exact rc_int)
local macro_rules | `(tactic| walk_at "rc") => `(tactic| exact rc_ord)
local macro_rules | `(tactic| walk_at "et") => `(tactic| (refine' et_test ?k1; (case k1 => walk_at "ev")))
local macro_rules | `(tactic| walk_at "et") => `(tactic| (refine' et_B ?k1; (case k1 => walk_at "ev")))
local macro_rules | `(tactic| walk_at "et") => `(tactic| (refine' et_not ?k1; (case k1 => walk_at "et")))
local macro_rules | `(tactic| walk_at "et") => `(tactic| (refine' et_or ?k1 (fun _ => ?k2); (case k1 => walk_at "et"); (case k2 => walk_at "et")))
local macro_rules | `(tactic| walk_at "et") => `(tactic| (refine' et_and ?k1 (fun _ => ?k2); (case k1 => walk_at "et"); (case k2 => walk_at "et")))
section
variable {P : Program} {w : World} {K : PySem.W.Frag} {mg : Str → Option Value} {base : Heap}
/-! ### characters -/
def isCh (c : Int) : Bool := decide (c = 10) || (decide (32 ≤ c) && decide (c ≤ 36) || decide (38 ≤ c) && decide (c ≤ 126))
def sp_is_character (K : PySem.W.Frag) : Sp := fun vs H Q _ => ∃ c : Int, vs = [.int c] ∧ RetV (.bl (isCh c)) H Q
theorem v_is_character {c : Int} {H : Hp} : SpV (sp_is_character K) [.int c] H (.bl (isCh c)) := fun _ _ _ q _ => ⟨c, rfl, q⟩
local macro_rules | `(tactic| walk_at "sp") => `(tactic| exact v_is_character)
theorem ok_is_character (T : Txt K mg) : FnOk P w K mg base CX0 1 T.f_is_character T.d_is_character ["code"] (sp_is_character K) := by
  refine T.F_is_character.ok sc_is_character (fun vs H Q E h => ?_) (fun cdv A outer s H vs Q E hr h => ?_)
  · obtain ⟨c, rfl, _⟩ := h
    rfl
  · obtain ⟨c, rfl, k⟩ := h
    refine ⟨_, (pss_one (ps_ret (pe_or (pe_cmpR op_eq (pv 0) (pe_glob (v := .int 10) (by rfl) T.c_NEWLINE ⟨_, rfl⟩) (nomark _)) (pe_or (pe_chain op_le op_le pe_int (pv 0) pe_int) (pe_one (pe_chain op_le op_le pe_int (pv 0) pe_int)))))), ?_⟩
    exact s_ret (v := .bl (isCh c)) (by walk_at "ev") k
/-- the codes of a text -/
def codes (z : Str) : List Int := z.cps.toList.map fun (c : Nat) => (c : Int)
def sp_codes_of (K : PySem.W.Frag) (C : Addr) : Sp := fun vs H Q E => ∃ z : Str, vs = [.str z] ∧ z.cps.size ≤ 1000 ∧
  ((codes z).all isCh = true → RetL ((codes z).map V.int) H Q) ∧ ((codes z).all isCh = false → ∀ H2, Ex H H2 → E (.ref C) none H2)
theorem l_codes_of {C : Addr} {z : Str} {H : Hp} (hz : z.cps.size ≤ 1000) (h : (codes z).all isCh = true) : SpL (sp_codes_of K C) [.str z] H ((codes z).map V.int) := fun _ _ _ q _ => ⟨z, rfl, hz, fun _ => q, fun z => by rw [h] at z; cases z⟩
theorem ok_codes_of (T : Txt K mg) : FnOk P w K mg base (L2.CX P w) 2 T.f_codes_of T.d_codes_of ["text"] (sp_codes_of K T.C_NotText) := by
  refine T.F_codes_of.okX sc_codes_of (fun vs H Q E h => ?_) (fun cdv A outer s H vs Q E hr h => ?_)
  · obtain ⟨z, rfl, _⟩ := h
    rfl
  · obtain ⟨z, rfl, hz, kG, kB⟩ := h
    refine ⟨_, (pss_cons (ps_setLc (i := 1) (own := [("character", 2)]) (by rfl) sc_codes_of.nd rfl rfl (sw_true rfl rfl rfl (by decide +kernel)) (pi_str (pv 0)) (blkOk_by (own := [("character", 2)]) (N := N_codes_of) (sc := defScope s_codes_of) (by decide +kernel)) (fun _ _ _ _ _ => pg_name (i := 2) sc_codes_of.nd rfl (Or.inl rfl)) (fun _ _ _ _ _ => pts_nil) (fun _ _ _ _ _ => (pe_callB call_ord (by rfl) T.n_ord (by decide +kernel) (pa_cons (pv 2) pa_nil))))
        (pss_cons (ps_for (passes_of rfl) rfl (pi_list (pv 1)) (pg_name (i := 3) sc_codes_of.nd rfl (Or.inl rfl)) (pss_one (ps_if (pt_not (pt_val (pe_call (ok_is_character T) (hr.mono (by decide)) (by rfl) T.g_is_character T.F_is_character.kp T.b_is_character .nil pass0 (pa_cons (pv 3) pa_nil)))) (pss_one (ps_raise rfl (takes_of rfl rfl rfl rfl) (pmk_own PySem.F.excBase_ValueError T.x_NotText T.g_NotText T.k_NotText (raises_own T.b_NotText T.t_NotText) (by rfl)))) pss_nil)))
        (pss_one (ps_ret (pv 1))))), ?_⟩
    refine q_asgL (el_mapS (fun v => match v with | .str x => V.int ((x.cps.getD 0 0 : Nat) : Int) | _ => .non) (ev_var rfl) (by omega) (fun _ => rfl) (fun c _ H1 _ => by walk_at "ev")) (fun p H1 hp e1 h1 => ?_)
    have hm : (sgns z).map (fun v => match v with | .str x => V.int ((x.cps.getD 0 0 : Nat) : Int) | _ => .non) = (codes z).map V.int := by
      rw [sgns_map]
      unfold codes
      rw [List.map_map]
      rfl
    rw [hm] at h1
    refine q_forLn (j := 3) (ev_var rfl) (sq_of h1) (fun i σ' H' => Ex H1 H' ∧ (∃ y, σ' = [some (.str z), some (.ref p), none, y]) ∧ ((codes z).take i).all isCh = true) (fun H2 e2 => ⟨e2, ⟨none, rfl⟩, rfl⟩)
      (fun i σ' H' _ hp => ex_l hp.1 (sq_of h1)) ?_ ?_
    · rintro i x σ' H' hx ⟨e2, ⟨y, rfl⟩, hall⟩
      obtain ⟨c, hc, rfl⟩ := map_at hx
      refine s_when (b := !isCh c) (by walk_at "et") (fun hb H3 e3 => ?_) (fun hb H3 e3 => ?_)
      · refine kB ?_ H3 (e1.trans (e2.trans e3))
        refine List.all_eq_false.mpr ⟨c, List.mem_of_getElem? hc, ?_⟩
        simpa using hb
      · refine ⟨e2.trans e3, ⟨_, rfl⟩, ?_⟩
        rw [take_snoc hc, List.all_append, hall]
        simpa using hb
    · rintro σ' H' ⟨e2, ⟨y, rfl⟩, hall⟩
      rw [List.length_map, List.take_length] at hall
      exact s_ret (ev_var rfl) fun H3 e3 => kG hall p H3 hp (e1.trans (e2.trans e3)) (e3 _ _ (e2 _ _ h1))
/-! ### text_of -/
def sp_character (K : PySem.W.Frag) (C : Addr) : Sp := fun vs H Q E => ∃ c : Int, vs = [.int c] ∧ (isCh c = true → RetV (.str ⟨#[c.toNat]⟩) H Q) ∧ (isCh c = false → ∀ H2, Ex H H2 → E (.ref C) none H2)
theorem v_character {C : Addr} {c : Int} {H : Hp} (h : isCh c = true) : SpV (sp_character K C) [.int c] H (.str ⟨#[c.toNat]⟩) := fun _ _ _ q _ => ⟨c, rfl, fun _ => q, fun z => by rw [h] at z; cases z⟩
theorem sp_tab : ∀ k < 5, str_FROM_SPACE.cps.toList[k]? = some (k + 32) := by decide +kernel
theorem amp_tab : ∀ k < 89, str_FROM_AMPERSAND.cps.toList[k]? = some (k + 38) := by decide +kernel
theorem at_off {xs : List Nat} {c o n : Int} (h0 : 0 ≤ c - o) (hn : c - o < n) (ho : 0 ≤ o) (tab : ∀ k < n.toNat, xs[k]? = some (k + o.toNat)) : atI xs (c - o) = some c.toNat := by
  have e : c - o = (((c - o).toNat : Nat) : Int) := by omega
  rw [e]
  refine atI_nat ?_
  rw [tab _ (by omega)]
  congr 1
  omega
theorem ok_character (T : Txt K mg) : FnOk P w K mg base (L2.CX P w) 2 T.f_character T.d_character ["code"] (sp_character K T.C_NotText) := by
  refine T.F_character.okX sc_character (fun vs H Q E h => ?_) (fun cdv A outer s H vs Q E hr h => ?_)
  · obtain ⟨c, rfl, _⟩ := h
    rfl
  · obtain ⟨c, rfl, kG, kB⟩ := h
    refine ⟨_, (pss_cons (ps_if (pt_not (pt_val (pe_call (ok_is_character T) (hr.mono (by decide)) (by rfl) T.g_is_character T.F_is_character.kp T.b_is_character .nil pass0 (pa_cons (pv 0) pa_nil)))) (pss_one (ps_raise rfl (takes_of rfl rfl rfl rfl) (pmk_own PySem.F.excBase_ValueError T.x_NotText T.g_NotText T.k_NotText (raises_own T.b_NotText T.t_NotText) (by rfl)))) pss_nil)
        (pss_cons (ps_if (pt_cmpR op_eq (pv 0) (pe_glob (v := .int 10) (by rfl) T.c_NEWLINE ⟨_, rfl⟩) (nomark _)) (pss_one (ps_ret pe_str)) pss_nil)
        (pss_cons (ps_if (pt_cmpR op_le (pv 0) pe_int (nomark _)) (pss_one (ps_ret (pe_ix ix_str (pe_glob (v := .str str_FROM_SPACE) (by rfl) T.c_FROM_SPACE ⟨_, rfl⟩) (pe_op op_sub (pv 0) pe_int) (fun _ _ => rfl)))) pss_nil)
        (pss_one (ps_ret (pe_ix ix_str (pe_glob (v := .str str_FROM_AMPERSAND) (by rfl) T.c_FROM_AMPERSAND ⟨_, rfl⟩) (pe_op op_sub (pv 0) pe_int) (fun _ _ => rfl))))))), ?_⟩
    refine q_when (b := !isCh c) (by walk_at "et") (fun hb H1 e1 => kB (by simpa using hb) H1 e1) (fun hb H1 e1 => ?_)
    have hc : isCh c = true := by simpa using hb
    have kG := kG hc
    refine q_when (b := decide (c = 10)) (by walk_at "et") (fun hb H2 e2 => ?_) (fun hb H2 e2 => ?_)
    · have e : c = 10 := of_decide_eq_true hb
      subst e
      exact s_ret ev_c fun H3 e3 => kG H3 (e1.trans (e2.trans e3))
    have n10 : c ≠ 10 := of_decide_eq_false hb
    unfold isCh at hc
    simp only [decide_eq_false n10, Bool.false_or, Bool.or_eq_true, Bool.and_eq_true, decide_eq_true_eq] at hc
    refine q_when (b := decide (c ≤ 36)) (by walk_at "et") (fun hb H3 e3 => ?_) (fun hb H3 e3 => ?_)
    · have h36 : c ≤ 36 := of_decide_eq_true hb
      refine s_ret (v := .str ⟨#[c.toNat]⟩) (ev_op ev_c (by walk_at "ev") (rv_ixS (by decide) (at_off (n := 5) (o := 32) (by omega) (by omega) (by decide) sp_tab))) fun H4 e4 => kG H4 (e1.trans (e2.trans (e3.trans e4)))
    · have h36 : ¬ c ≤ 36 := of_decide_eq_false hb
      refine s_ret (v := .str ⟨#[c.toNat]⟩) (ev_op ev_c (by walk_at "ev") (rv_ixS (by decide) (at_off (n := 89) (o := 38) (by omega) (by omega) (by decide) amp_tab))) fun H4 e4 => kG H4 (e1.trans (e2.trans (e3.trans e4)))
def textOf (ns : List Int) : Str := ⟨(ns.map Int.toNat).toArray⟩
def sp_text_of (K : PySem.W.Frag) : Sp := fun vs H Q _ => ∃ (a : Addr) (ns : List Int), vs = [.ref a] ∧ SqL K H a (ns.map V.int) ∧ ns.length ≤ 1000 ∧ ns.all isCh = true ∧ RetV (.str (textOf ns)) H Q
theorem v_text_of {a : Addr} {ns : List Int} {H : Hp} (h : SqL K H a (ns.map V.int)) (hl : ns.length ≤ 1000) (hc : ns.all isCh = true) : SpV (sp_text_of K) [.ref a] H (.str (textOf ns)) := fun _ e _ q _ => ⟨a, ns, rfl, ex_l e h, hl, hc, q⟩
theorem ok_text_of (T : Txt K mg) : FnOk P w K mg base CX0 3 T.f_text_of T.d_text_of ["codes"] (sp_text_of K) := by
  refine T.F_text_of.ok sc_text_of (fun vs H Q E h => ?_) (fun cdv A outer s H vs Q E hr h => ?_)
  · obtain ⟨a, ns, rfl, _⟩ := h
    rfl
  · obtain ⟨a, ns, rfl, hS, hl, hc, k⟩ := h
    refine ⟨_, (pss_one (ps_ret (pe_join pe_str (pe_lc (own := [("code", 1)]) (by rfl) sc_text_of.nd (pi_list (pv 0)) (blkOk_by (own := [("code", 1)]) (N := N_text_of) (sc := defScope s_text_of) (by decide +kernel)) (fun _ _ _ _ _ => pg_name (i := 1) sc_text_of.nd rfl (Or.inl rfl)) (fun _ _ _ _ _ => pts_nil) (fun _ _ _ _ _ => (pe_call (ok_character T) (hr.mono (by decide)) (by rfl) T.g_character T.F_character.kp T.b_character .nil passL (pa_cons (pv 1) pa_nil))))))), ?_⟩
    let f : V → V := fun v => match v with | .int c => .str ⟨#[c.toNat]⟩ | _ => .non
    have hE : EvL _ (L2.start N_text_of [.ref a]) H ((ns.map V.int).map f) := el_mapL (K := K) (σ := L2.start N_text_of [.ref a]) (H := H) (te := tCall (sp_character K T.C_NotText) [] E0 (tCons (tVar 1) tNil)) (tl := tVar 0) (j := 1) (vs := [1]) f (ev_var rfl) hS (by rw [List.length_map]; omega) (fun _ => rfl) (fun x hx H1 _ => by
      obtain ⟨c, hcm, rfl⟩ := List.mem_map.mp hx
      exact ev_call (ea_cons (ev_var rfl) ea_nil) (v_character (List.all_eq_true.mp hc c hcm)))
    have hm : (ns.map V.int).map f = (ns.map fun c => (⟨#[c.toNat]⟩ : Str)).map V.str := by
      rw [List.map_map, List.map_map]
      rfl
    rw [hm] at hE
    have ht : Txt.join "" (ns.map fun c => (⟨#[c.toNat]⟩ : Str)) = textOf ns := by
      refine str_ext ?_
      rw [joinE, List.map_map]
      unfold textOf
      show (ns.map fun c => [c.toNat]).flatten = ns.map Int.toNat
      clear hS hl hc k hE hm
      induction ns with
      | nil => rfl
      | cons c r ih => rw [List.map_cons, List.flatten_cons, ih]; rfl
    rw [← ht] at k
    refine s_ret (ev_joinL ev_c hE ?_) k
    have hs : ((ns.map fun c => (⟨#[c.toNat]⟩ : Str)).map (·.length)).sum = ns.length := by
      clear hS hl hc k hE hm ht
      induction ns with
      | nil => rfl
      | cons c r ih => rw [List.map_cons, List.map_cons, List.sum_cons, ih, List.length_cons]; show 1 + r.length = r.length + 1; omega
    rw [hs, List.length_map]
    show ns.length + ns.length * 0 ≤ 16777216
    omega
/-! ### the law's own helpers -/
def sp_law_cell (K : PySem.W.Frag) : Sp := fun vs H Q _ => ∃ (a : Addr) (ns : List Int) (k : Nat), vs = [.ref a, .int (k : Int)] ∧ SqL K H a (ns.map V.int) ∧ RetV (.int (cellN ns k)) H Q
theorem v_law_cell {a : Addr} {ns : List Int} {H : Hp} (k : Nat) (h : SqL K H a (ns.map V.int)) : SpV (sp_law_cell K) [.ref a, .int (k : Int)] H (.int (cellN ns k)) := fun _ e _ q _ => ⟨a, ns, k, rfl, ex_l e h, q⟩
theorem ok_law_cell (T : Txt K mg) : FnOk P w K mg base CX0 1 T.f_law_cell T.d_law_cell ["script", "k"] (sp_law_cell K) := by
  refine T.F_law_cell.ok sc_law_cell (fun vs H Q E h => ?_) (fun cdv A outer s H vs Q E hr h => ?_)
  · obtain ⟨a, ns, k, rfl, _⟩ := h
    rfl
  · obtain ⟨a, ns, k, rfl, hS, q⟩ := h
    refine ⟨_, (pss_cons (ps_if (pt_cmpR op_lt (pv 1) (pe_callB call_len_seq (by rfl) T.n_len (by decide +kernel) (pa_cons (pv 0) pa_nil)) (nomark _)) (pss_one (ps_ret (pe_ix ix_list (pv 0) (pv 1) (fun _ _ => rfl)))) pss_nil)
        (pss_one (ps_ret pe_int))), ?_⟩
    have hlen : Ev (tCB (rLenS K) (tCons (tVar 0) tNil)) (L2.start N_law_cell [.ref a, .int (k : Int)]) H (.int ((ns.map V.int).length : Int)) := ev_len (ev_var rfl) hS
    refine q_when (b := decide ((k : Int) < ((ns.map V.int).length : Int))) (et_test (ev_op (ev_var rfl) hlen rv_I0)) (fun hb H1 e1 => ?_) (fun hb H1 e1 => ?_)
    · have hk : k < ns.length := by have := of_decide_eq_true hb; rw [List.length_map] at this; omega
      have hg : ns[k]? = some (cellN ns k) := by
        unfold cellN
        rw [List.getElem?_eq_getElem hk, List.getD_eq_getElem?_getD, List.getElem?_eq_getElem hk]
        rfl
      exact s_ret (ev_op (ev_var rfl) (ev_var rfl) (rv_ixL (ex_l e1 hS) (atI_nat (by rw [List.getElem?_map, hg]; rfl)))) fun H2 e2 => q H2 (e1.trans e2)
    · have hk : ¬ k < ns.length := by have := of_decide_eq_false hb; rw [List.length_map] at this; omega
      have hg : cellN ns k = 0 := by
        unfold cellN
        rw [List.getD_eq_getElem?_getD, List.getElem?_eq_none (by omega)]
        rfl
      rw [hg] at q
      exact s_ret ev_c fun H2 e2 => q H2 (e1.trans e2)
def sp_law_values (K : PySem.W.Frag) : Sp := fun vs H Q _ => ∃ (cell size : Int) (n : Nat), vs = [.int cell, .int (n : Int), .int size] ∧ n ≤ 1000 ∧ 0 < size ∧ size < 100000 ∧ RetL ((lvals cell n size).map V.int) H Q
theorem l_law_values {cell size : Int} {n : Nat} {H : Hp} (hn : n ≤ 1000) (h0 : 0 < size) (h1 : size < 100000) : SpL (sp_law_values K) [.int cell, .int (n : Int), .int size] H ((lvals cell n size).map V.int) := fun _ _ _ q _ => ⟨cell, size, n, rfl, hn, h0, h1, q⟩
theorem ok_law_values (T : Txt K mg) : FnOk P w K mg base CX0 1 T.f_law_values T.d_law_values ["cell", "count", "size"] (sp_law_values K) := by
  refine T.F_law_values.ok sc_law_values (fun vs H Q E h => ?_) (fun cdv A outer s H vs Q E hr h => ?_)
  · obtain ⟨cell, size, n, rfl, _⟩ := h
    rfl
  · obtain ⟨cell, size, n, rfl, hn, h0, h1, k⟩ := h
    refine ⟨_, (pss_cons (ps_set (i := 3) sc_law_values.nd rfl (Or.inl rfl) (pe_lst pa_nil))
        (pss_cons (ps_set (i := 4) sc_law_values.nd rfl (Or.inl rfl) (pv 0))
        (pss_cons (ps_for PassesOwn.never rfl (pi_range1 (by rfl) T.n_range (pa_cons (pv 1) pa_nil)) (pg_name (i := 5) sc_law_values.nd rfl (Or.inl rfl)) (pss_one (ps_if (pt_cmpR op_ge (pv 4) (pe_op op_pow pe_int pe_int) (nomark _)) (pss_cons (ps_expr (pe_bm PySem.F.plainAttrs_list PySem.F.slot_list_append PySem.F.type_list_append mt_append (pv 3) (pa_cons (pe_op op_modN (pe_callTy call_int1 (by rfl) T.n_int (by decide +kernel) (pa_cons (pv 4) pa_nil)) (pv 2)) pa_nil)))
        (pss_one (ps_set (i := 4) sc_law_values.nd rfl (Or.inl rfl) (pe_op op_fdivN (pv 4) (pv 2))))) (pss_cons (ps_set (i := 6) sc_law_values.nd rfl (Or.inl rfl) (pe_op op_modN (pe_op op_add (pe_op op_add (pe_op op_mul (pe_op op_modN (pe_callTy call_int1 (by rfl) T.n_int (by decide +kernel) (pa_cons (pv 0) pa_nil)) pe_int) pe_int) (pe_op op_mul (pv 5) pe_int)) pe_int) pe_int))
        (pss_one (ps_expr (pe_bm PySem.F.plainAttrs_list PySem.F.slot_list_append PySem.F.type_list_append mt_append (pv 3) (pa_cons (pe_op op_modN (pe_op op_modN (pe_op op_mul (pv 6) pe_int) pe_int) (pv 2)) pa_nil))))))))
        (pss_one (ps_ret (pv 3)))))), ?_⟩
    refine q_asgL (el_lst ea_nil (by decide)) (fun p H1 hp e1 d1 => ?_)
    refine q_asg (ev_var rfl) (fun H2 e2 => ?_)
    refine q_forR1 (n := (n : Int)) (ea_cons (ev_var rfl) ea_nil) (by omega) (fun i σ' H' => Ex H H' ∧ H' p = some (.lst ((lvGo cell size i).2.map V.int)) ∧
      ∃ y z, σ' = [some (.int cell), some (.int (n : Int)), some (.int size), some (.ref p), some (.int (lvGo cell size i).1), y, z]) ?_ ?_ ?_
    · intro H3 e3
      exact ⟨e1.trans (e2.trans e3), e3 _ _ (e2 _ _ d1), none, none, rfl⟩
    · rintro i σ' H' hi ⟨e3, hd, y, z, rfl⟩
      have hlen : ((lvGo cell size i).2.map V.int).length < 100000 := by
        have := lvals_len cell i size
        unfold lvals at this
        rw [List.length_map]
        omega
      refine s_if (b := decide ((10 : Int) ^ 12 ≤ (lvGo cell size i).1)) (et_test (ev_op (ev_var rfl) (ev_op ev_c ev_c (rv_pow (by decide))) rv_I0)) (fun hb H4 e4 => ?_) (fun hb H4 e4 => ?_)
      · have hc : (lvGo cell size i).1 ≥ 10 ^ 12 := of_decide_eq_true hb
        refine q_app (e4 _ _ hd) (ev_var rfl) (ev_op (ev_cb (ea_cons (ev_var rfl) ea_nil) rc_int) (ev_var rfl) (rv_mod (by omega))) hlen (fun H5 e5 => ?_)
        refine s_asg (ev_op (ev_var rfl) (ev_var rfl) (rv_fdiv (by omega) (by omega))) (fun H6 e6 => ?_)
        refine ⟨fun b o q => e6 _ _ (by rw [upd_ne (ne_of_none q hp)]; exact e5 _ _ (e4 _ _ (e3 _ _ q))), ?_, some (.int (i : Int)), z, ?_⟩
        · rw [lvGo_succ]
          unfold lvStep
          rw [if_pos hc, List.map_append]
          exact e6 _ _ upd_same
        · rw [lvGo_succ]
          unfold lvStep
          rw [if_pos hc]
          rfl
      · have hc : ¬ (lvGo cell size i).1 ≥ 10 ^ 12 := of_decide_eq_false hb
        refine q_asg (v := .int (((cell.fmod 2147483647) * 48271 + (i : Int) * 69621 + 7).fmod 2147483647)) (ev_op (ev_op (ev_op (ev_op (ev_op (ev_cb (ea_cons (ev_var rfl) ea_nil) rc_int) ev_c (rv_mod (by decide))) ev_c (rv_mulR (by decide))) (ev_op (ev_var rfl) ev_c (rv_mulR (by decide))) rv_I0) ev_c rv_I0) ev_c (rv_mod (by decide))) (fun H5 e5 => ?_)
        refine s_app (e5 _ _ (e4 _ _ hd)) (ev_var rfl) (v := .int (lvMix cell size i)) (ev_op (ev_op (ev_op (ev_var rfl) ev_c (rv_mulR (by decide))) ev_c (rv_mod (by decide))) (ev_var rfl) (rv_mod (by omega))) hlen (fun H6 e6 => ?_)
        refine ⟨fun b o q => by rw [upd_ne (ne_of_none q hp)]; exact e6 _ _ (e5 _ _ (e4 _ _ (e3 _ _ q))), ?_, some (.int (i : Int)), some (.int (((cell.fmod 2147483647) * 48271 + (i : Int) * 69621 + 7).fmod 2147483647)), ?_⟩
        · rw [lvGo_succ]
          unfold lvStep
          rw [if_neg hc, List.map_append]
          exact upd_same
        · rw [lvGo_succ]
          unfold lvStep
          rw [if_neg hc]
          rfl
    · rintro σ' H' ⟨e3, hd, y, z, rfl⟩
      exact s_ret (ev_var rfl) fun H4 e4 => k p H4 hp (e3.trans e4) (e4 _ _ hd)
def charsS : Str := " !\"#$&'()*+,-./0123456789:;<=>?@ABCDEFGHIJKLMNOPQRSTUVWXYZ[\\]^_`" ++ "abcdefghijklmnopqrstuvwxyz{|}~\n"
def sp_law_chars (K : PySem.W.Frag) : Sp := fun vs H Q _ => vs = [] ∧ RetV (.str charsS) H Q
theorem v_law_chars {H : Hp} : SpV (sp_law_chars K) [] H (.str charsS) := fun _ _ _ q _ => ⟨rfl, q⟩
theorem ok_law_chars (T : Txt K mg) : FnOk P w K mg base CX0 1 T.f_law_chars T.d_law_chars [] (sp_law_chars K) := by
  refine T.F_law_chars.ok sc_law_chars (fun vs H Q E h => ?_) (fun cdv A outer s H vs Q E hr h => ?_)
  · obtain ⟨rfl, _⟩ := h
    rfl
  · obtain ⟨rfl, k⟩ := h
    refine ⟨_, (pss_cons (ps_set (i := 0) sc_law_chars.nd rfl (Or.inl rfl) pe_str)
        (pss_one (ps_ret (pe_op op_add_str (pv 0) pe_str)))), ?_⟩
    refine q_asg ev_c (fun H1 e1 => ?_)
    exact s_ret (v := .str charsS) (ev_op (ev_var rfl) ev_c (rv_addS (by decide))) fun H2 e2 => k H2 (e1.trans e2)
def occ1 (c : Nat) : List Nat := Builtin.Str.occurrences charsS ⟨#[c]⟩ 0 charsS.length 1
def codeAt (i : Nat) : Nat := if i = 94 then 10 else if i < 5 then 32 + i else 33 + i
theorem occ_tab : charsS.cps.toList.all (fun c => match occ1 c with | i :: _ => codeAt i == c | [] => false) = true := by decide +kernel
theorem occ_of {c : Nat} (h : c ∈ charsS.cps.toList) : ∃ i rest, occ1 c = i :: rest ∧ codeAt i = c := by
  have := List.all_eq_true.mp occ_tab c h
  cases e : occ1 c with
  | nil => rw [e] at this; cases this
  | cons i rest =>
    rw [e] at this
    exact ⟨i, rest, rfl, by simpa using this⟩
def sp_law_code (K : PySem.W.Frag) : Sp := fun vs H Q _ => ∃ c : Nat, vs = [.str ⟨#[c]⟩] ∧ c ∈ charsS.cps.toList ∧ RetV (.int (c : Int)) H Q
theorem v_law_code {c : Nat} {H : Hp} (h : c ∈ charsS.cps.toList) : SpV (sp_law_code K) [.str ⟨#[c]⟩] H (.int (c : Int)) := fun _ _ _ q _ => ⟨c, rfl, h, q⟩
local macro_rules | `(tactic| walk_at "sp") => `(tactic| exact v_law_chars)
theorem ok_law_code (T : Txt K mg) : FnOk P w K mg base CX0 2 T.f_law_code T.d_law_code ["char"] (sp_law_code K) := by
  refine T.F_law_code.ok sc_law_code (fun vs H Q E h => ?_) (fun cdv A outer s H vs Q E hr h => ?_)
  · obtain ⟨c, rfl, _⟩ := h
    rfl
  · obtain ⟨c, rfl, hc, k⟩ := h
    refine ⟨_, (pss_cons (ps_set (i := 1) sc_law_code.nd rfl (Or.inl rfl) (pe_call0 (ok_law_chars T) (hr.mono (by decide)) (by rfl) T.g_law_chars T.F_law_chars.kp T.b_law_chars .nil pass0))
        (pss_cons (ps_set (i := 2) sc_law_code.nd rfl (Or.inl rfl) (pe_bm PySem.F.plainAttrs_str PySem.F.slot_str_index PySem.F.type_str_index mt_sindex (pv 1) (pa_cons (pv 0) pa_nil)))
        (pss_cons (ps_if (pt_cmpR op_eq (pv 2) (pe_op op_sub pe_int pe_int) (nomark _)) (pss_one (ps_ret pe_int)) pss_nil)
        (pss_cons (ps_if (pt_cmpR op_lt (pv 2) pe_int (nomark _)) (pss_one (ps_ret (pe_op op_add pe_int (pv 2)))) pss_nil)
        (pss_one (ps_ret (pe_op op_add pe_int (pv 2)))))))), ?_⟩
    obtain ⟨i, rest, ho, hi⟩ := occ_of hc
    refine q_asg (by walk_at "ev") (fun H1 e1 => ?_)
    refine q_asg (v := .int (i : Int)) (fun H2 e2 Q q => ⟨.str charsS, rfl, rfl, .str ⟨#[c]⟩, rfl, charsS, ⟨#[c]⟩, i, rest, rfl, rfl, ho, q H2 (Ex.refl H2)⟩) (fun H2 e2 => ?_)
    refine q_when (b := decide ((i : Int) = 94)) (by walk_at "et") (fun hb H3 e3 => ?_) (fun hb H3 e3 => ?_)
    · have e : i = 94 := by have := of_decide_eq_true hb; omega
      subst e
      subst hi
      exact s_ret ev_c fun H4 e4 => k H4 (e1.trans (e2.trans (e3.trans e4)))
    have n94 : ¬ i = 94 := by have := of_decide_eq_false hb; omega
    refine q_when (b := decide ((i : Int) < 5)) (by walk_at "et") (fun hb H4 e4 => ?_) (fun hb H4 e4 => ?_)
    · have h5 : i < 5 := by have := of_decide_eq_true hb; omega
      have e : (c : Int) = 32 + (i : Int) := by rw [← hi]; unfold codeAt; rw [if_neg n94, if_pos h5]; omega
      rw [e] at k
      exact s_ret (by walk_at "ev") fun H5 e5 => k H5 (e1.trans (e2.trans (e3.trans (e4.trans e5))))
    · have h5 : ¬ i < 5 := by have := of_decide_eq_false hb; omega
      have e : (c : Int) = 33 + (i : Int) := by rw [← hi]; unfold codeAt; rw [if_neg n94, if_neg h5]; omega
      rw [e] at k
      exact s_ret (by walk_at "ev") fun H5 e5 => k H5 (e1.trans (e2.trans (e3.trans (e4.trans e5))))
/-! ### refused texts -/
def sp_law_refuses (K : PySem.W.Frag) : Sp := fun vs H Q _ => ∃ z : Str, vs = [.str z] ∧ z.cps.size ≤ 1000 ∧ (codes z).all isCh = false ∧ RetV (.bl true) H Q
theorem v_law_refuses {z : Str} {H : Hp} (hz : z.cps.size ≤ 1000) (hb : (codes z).all isCh = false) : SpV (sp_law_refuses K) [.str z] H (.bl true) := fun _ _ _ q _ => ⟨z, rfl, hz, hb, q⟩
theorem ok_law_refuses (T : Txt K mg) : FnOk P w K mg base CX0 3 T.f_law_refuses T.d_law_refuses ["text"] (sp_law_refuses K) := by
  refine T.F_law_refuses.ok sc_law_refuses (fun vs H Q E h => ?_) (fun cdv A outer s H vs Q E hr h => ?_)
  · obtain ⟨z, rfl, _⟩ := h
    rfl
  · obtain ⟨z, rfl, hz, hb, k⟩ := h
    refine ⟨_, (pss_cons (ps_try_as (i := 1) rfl rfl sc_law_refuses.nd rfl rfl ⟨(by rfl), by decide, .inl T.g_NotText⟩ takes0 (fun W pn xe tk own => (pss_one (ps_expr (pe_callS (ok_codes_of T) (hr.mono (by decide)) (by rfl) T.g_codes_of T.F_codes_of.kp T.b_codes_of (fun σ => passAt tk σ) (by exact (pa_cons (pv 0) pa_nil)))))) (fun a oe cls d pn hz hf => (pss_one (ps_ret (pe_and (pe_callB (call_isX ⟨T.ga_NotText, T.gg_NotText, T.b_NotText, T.hd_NotText, T.gc_NotText, T.gs_NotText, T.gt_NotText, T.gm_NotText⟩ hz hf) (by rfl) T.n_isinstance (by decide +kernel) (pa_cons (pv 1) (pa_cons (pe_bltn (v := .ty "ValueError") (by rfl) T.n_ValueError (by decide +kernel) rfl) pa_nil))) (pe_and (pe_not (pe_callB (call_isX ⟨T.ga_NotText, T.gg_NotText, T.b_NotText, T.hd_NotText, T.gc_NotText, T.gs_NotText, T.gt_NotText, T.gm_NotText⟩ hz hf) (by rfl) T.n_isinstance (by decide +kernel) (pa_cons (pv 1) (pa_cons (pe_glob (v := .ref T.C_NotNumeral) (by rfl) T.g_NotNumeral rfl) pa_nil)))) (pe_one (pe_not (pe_callB (call_isX ⟨T.ga_NotText, T.gg_NotText, T.b_NotText, T.hd_NotText, T.gc_NotText, T.gs_NotText, T.gt_NotText, T.gm_NotText⟩ hz hf) (by rfl) T.n_isinstance (by decide +kernel) (pa_cons (pv 1) (pa_cons (pe_glob (v := .ref T.C_BadFuel) (by rfl) T.g_BadFuel rfl) pa_nil)))))))))))
        (pss_one (ps_ret pe_bl))), ?_⟩
    refine ⟨_, rfl, z, rfl, hz, (fun q => by rw [hb] at q; cases q), fun _ H2 e2 => ?_⟩
    refine ⟨true, PySem.W.exm_ref T.b_NotText T.hd_NotText T.t_NotText T.s_NotText, fun _ a ha => ?_, fun q => nomatch q⟩
    refine s_ret (v := .bl (true && (!false && !false))) ?_ fun H3 e3 => k H3 (e2.trans e3)
    refine ev_andV (ev_cb (ea_cons (ev_var rfl) (ea_cons ev_c ea_nil)) (rc_isX (fun u h => h) T.kit_NotText_ValueError)) (fun _ => ?_)
    refine ev_andV (ev_notV (ev_cb (ea_cons (ev_var rfl) (ea_cons ev_c ea_nil)) (rc_isX (fun u h => h) T.kit_NotText_NotNumeral))) (fun _ => ?_)
    exact ev_notV (ev_cb (ea_cons (ev_var rfl) (ea_cons ev_c ea_nil)) (rc_isX (fun u h => h) T.kit_NotText_BadFuel))
def sp_law_refuses_base (K : PySem.W.Frag) : Sp := sp_law_refuses K
theorem ok_law_refuses_base (T : Txt K mg) : FnOk P w K mg base CX0 3 T.f_law_refuses_base T.d_law_refuses_base ["text"] (sp_law_refuses_base K) := by
  refine T.F_law_refuses_base.ok sc_law_refuses_base (fun vs H Q E h => ?_) (fun cdv A outer s H vs Q E hr h => ?_)
  · obtain ⟨z, rfl, _⟩ := h
    rfl
  · obtain ⟨z, rfl, hz, hb, k⟩ := h
    refine ⟨_, (pss_cons (ps_try_only rfl rfl ⟨(by rfl), by decide, .inl T.g_PlinthError⟩ takes0 (fun W pn xe tk own => (pss_one (ps_expr (pe_callS (ok_codes_of T) (hr.mono (by decide)) (by rfl) T.g_codes_of T.F_codes_of.kp T.b_codes_of (fun σ => passAt tk σ) (by exact (pa_cons (pv 0) pa_nil)))))) (fun a oe cls d pn _ _ => (pss_one (ps_ret pe_bl))))
        (pss_one (ps_ret pe_bl))), ?_⟩
    refine ⟨_, rfl, z, rfl, hz, (fun q => by rw [hb] at q; cases q), fun _ H2 e2 => ?_⟩
    refine ⟨true, PySem.W.exm_ref T.b_PlinthError T.hd_PlinthError T.t_PlinthError T.sub_NotText_PlinthError, fun _ a ha => ?_, fun q => nomatch q⟩
    exact s_ret ev_c fun H3 e3 => k H3 (e2.trans e3)
/-! ### the law -/
theorem chars_len : charsS.cps.toList.length = 95 := by decide +kernel
theorem chars_ok : charsS.cps.toList.all (fun c => isCh (c : Int)) = true := by decide +kernel
/-- the drawn text -/
def drawn (vs : List Int) : List Nat := vs.map fun v => charsS.cps.toList.getD v.toNat 0
theorem drawn_in {vs : List Int} (h : ∀ v ∈ vs, 0 ≤ v ∧ v < 95) : ∀ c ∈ drawn vs, c ∈ charsS.cps.toList := by
  intro c hc
  obtain ⟨v, hv, rfl⟩ := List.mem_map.mp hc
  have := h v hv
  rw [List.getD_eq_getElem?_getD, List.getElem?_eq_getElem (by rw [chars_len]; omega)]
  exact List.getElem_mem _
theorem codes_ok {l : List Nat} (h : ∀ c ∈ l, c ∈ charsS.cps.toList) : (codes ⟨l.toArray⟩).all isCh = true := by
  unfold codes
  refine List.all_eq_true.mpr fun x hx => ?_
  obtain ⟨c, hc, rfl⟩ := List.mem_map.mp hx
  exact List.all_eq_true.mp chars_ok c (h c (by simpa using hc))
theorem codes_bad {z : Str} (h : 9 ∈ z.cps.toList) : (codes z).all isCh = false := by
  refine List.all_eq_false.mpr ⟨9, ?_, by decide⟩
  unfold codes
  exact List.mem_map.mpr ⟨9, h, rfl⟩
theorem text_codes (l : List Nat) : textOf (codes ⟨l.toArray⟩) = ⟨l.toArray⟩ := by
  refine str_ext ?_
  unfold textOf codes
  show List.map Int.toNat (List.map (fun (c : Nat) => (c : Int)) l) = l
  rw [List.map_map]
  show List.map (fun c : Nat => (c : Int).toNat) l = l
  simp
theorem codes_small {l : List Nat} (h : ∀ c ∈ l, c ∈ charsS.cps.toList) : ∀ n ∈ codes ⟨l.toArray⟩, n.natAbs < 10 ^ 100 := by
  intro n hn
  have h1 : isCh n = true := List.all_eq_true.mp (codes_ok h) n hn
  have : n.natAbs < 1000 := by
    unfold isCh at h1
    simp only [Bool.or_eq_true, Bool.and_eq_true, decide_eq_true_eq] at h1
    omega
  exact Nat.lt_of_lt_of_le this (by decide)
theorem cut_len (z : Str) (a b : Option Int) : (cutS z a b).length ≤ z.length := by
  rw [len_size, len_size]
  unfold cutS
  simp only [List.length_take, List.length_drop]
  omega
theorem sum1 (l : List Nat) : ((l.map fun c => (⟨#[c]⟩ : Str)).map (·.length)).sum = l.length := by
  induction l with
  | nil => rfl
  | cons c r ih => rw [List.map_cons, List.map_cons, List.sum_cons, ih, List.length_cons]; show 1 + r.length = r.length + 1; omega
def sp_law (K : PySem.W.Frag) : Sp := fun vs H Q _ => ∃ (a : Addr) (ns : List Int), vs = [.ref a] ∧ SqL K H a (ns.map V.int) ∧ ∀ H', Q (.bl true) H'
theorem ok_law (T : Txt K mg) : Gd.GOk P w K mg base CX0 4 T.f_law T.d_law ["script"] (sp_law K) := by
  refine Gd.gfun T.F_law sc_law (fun vs H Q E h => ?_) (fun cdv A outer s H vs Q E hgd hr h => ?_)
  · obtain ⟨a, ns, rfl, _⟩ := h
    rfl
  · obtain ⟨a, ns, rfl, hS, k⟩ := h
    refine ⟨_, (pss_cons (ps_set (i := 1) sc_law.nd rfl (Or.inl rfl) (pe_op op_modN (pe_call (ok_law_cell T) (hr.mono (by decide)) (by rfl) T.g_law_cell T.F_law_cell.kp T.b_law_cell .nil pass0 (pa_cons (pv 0) (pa_cons pe_int pa_nil))) pe_int))
        (pss_cons (ps_if (pt_cmpR op_eq (pe_op op_modN (pe_op op_fdivN (pe_call (ok_law_cell T) (hr.mono (by decide)) (by rfl) T.g_law_cell T.F_law_cell.kp T.b_law_cell .nil pass0 (pa_cons (pv 0) (pa_cons pe_int pa_nil))) pe_int) pe_int) pe_int (nomark _)) (pss_one (ps_set (i := 1) sc_law.nd rfl (Or.inl rfl) pe_int)) pss_nil)
        (pss_cons (ps_set (i := 2) sc_law.nd rfl (Or.inr rfl) (pe_call0 (ok_law_chars T) (hr.mono (by decide)) (by rfl) T.g_law_chars T.F_law_chars.kp T.b_law_chars .nil pass0))
        (pss_cons (ps_set (i := 3) sc_law.nd rfl (Or.inl rfl) (pe_join pe_str (pe_lc (own := [("value", 4)]) (by rfl) sc_law.nd (pi_list (pe_call (ok_law_values T) (hr.mono (by decide)) (by rfl) T.g_law_values T.F_law_values.kp T.b_law_values .nil pass0 (pa_cons (pe_call (ok_law_cell T) (hr.mono (by decide)) (by rfl) T.g_law_cell T.F_law_cell.kp T.b_law_cell .nil pass0 (pa_cons (pv 0) (pa_cons pe_int pa_nil))) (pa_cons (pv 1) (pa_cons pe_int pa_nil))))) (blkOk_by (own := [("value", 4)]) (N := N_law) (sc := defScope s_law) (by decide +kernel)) (fun _ _ _ _ _ => pg_name (i := 4) sc_law.nd rfl (Or.inl rfl)) (fun _ _ _ _ _ => pts_nil) (fun _ _ _ _ _ => (pe_ix ix_str (pv 2) (pv 4) (fun _ _ => rfl))))))
        (pss_cons (ps_setLc (i := 5) (own := [("char", 6)]) (by rfl) sc_law.nd rfl rfl (sw_true rfl rfl rfl (by decide +kernel)) (pi_str (pv 3)) (blkOk_by (own := [("char", 6)]) (N := N_law) (sc := defScope s_law) (by decide +kernel)) (fun _ _ _ _ _ => pg_name (i := 6) sc_law.nd rfl (Or.inl rfl)) (fun _ _ _ _ _ => pts_nil) (fun _ _ _ _ _ => (pe_call (ok_law_code T) (hr.mono (by decide)) (by rfl) T.g_law_code T.F_law_code.kp T.b_law_code .nil pass0 (pa_cons (pv 6) pa_nil))))
        (pss_cut (ps_if (pt_cmpR op_eq (pe_op op_modN (pe_call (ok_law_cell T) (hr.mono (by decide)) (by rfl) T.g_law_cell T.F_law_cell.kp T.b_law_cell .nil pass0 (pa_cons (pv 0) (pa_cons pe_int pa_nil))) pe_int) pe_int (nomark _)) (pss_cons (ps_set (i := 7) sc_law.nd rfl (Or.inl rfl) (pe_op op_modN (pe_op op_fdivN (pe_call (ok_law_cell T) (hr.mono (by decide)) (by rfl) T.g_law_cell T.F_law_cell.kp T.b_law_cell .nil pass0 (pa_cons (pv 0) (pa_cons pe_int pa_nil))) pe_int) (pe_op op_add (pe_callB call_len_str (by rfl) T.n_len (by decide +kernel) (pa_cons (pv 3) pa_nil)) pe_int)))
        (pss_cons (ps_set (i := 8) sc_law.nd rfl (Or.inl rfl) (pe_op op_add_str (pe_op op_add_str (pe_slice sl_str (pv 3) po_none (po_some (pv 7))) pe_str) (pe_slice sl_str (pv 3) (po_some (pv 7)) po_none)))
        (pss_one (ps_if (PW.pt (pw_or (pt_not (pt_val (pe_call (ok_law_refuses T) (hr.mono (by decide)) (by rfl) T.g_law_refuses T.F_law_refuses.kp T.b_law_refuses .nil pass0 (pa_cons (pv 8) pa_nil)))) (pw_or1 (pt_not (pt_val (pe_call (ok_law_refuses_base T) (hr.mono (by decide)) (by rfl) T.g_law_refuses_base T.F_law_refuses_base.kp T.b_law_refuses_base .nil pass0 (pa_cons (pv 8) pa_nil))))))) (pss_one (ps_ret pe_bl)) pss_nil)))) pss_nil)
        (pss_cons (ps_set (i := 9) sc_law.nd rfl (Or.inl rfl) (pe_call (ok_codes_of T) (hr.mono (by decide)) (by rfl) T.g_codes_of T.F_codes_of.kp T.b_codes_of .nil passL (pa_cons (pv 3) pa_nil)))
        (pss_cons (ps_if (pt_cmpR op_ne (pe_callB (Gd.call_reprD hgd hr.units) (by rfl) T.n_repr (by decide +kernel) (pa_cons (pv 9) pa_nil)) (pe_callB (Gd.call_reprD hgd hr.units) (by rfl) T.n_repr (by decide +kernel) (pa_cons (pv 5) pa_nil)) (nomark _)) (pss_one (ps_ret pe_bl)) pss_nil)
        (pss_cons (ps_set (i := 10) sc_law.nd rfl (Or.inl rfl) (pe_call (ok_text_of T) (hr.mono (by decide)) (by rfl) T.g_text_of T.F_text_of.kp T.b_text_of .nil pass0 (pa_cons (pv 9) pa_nil)))
        (pss_one (ps_ret (pe_and (pe_callB call_isi (by rfl) T.n_isinstance (by decide +kernel) (pa_cons (pv 10) (pa_cons (pe_bltn (v := .ty "str") (by rfl) T.n_str (by decide +kernel) rfl) pa_nil))) (pe_and (pe_cmpR op_eq (pv 10) (pv 3) (nomark _)) (pe_one (pe_cmpR op_eq (pe_callB (Gd.call_reprD hgd hr.units) (by rfl) T.n_repr (by decide +kernel) (pa_cons (pv 9) pa_nil)) (pe_callB (Gd.call_reprD hgd hr.units) (by rfl) T.n_repr (by decide +kernel) (pa_cons (pv 5) pa_nil)) (nomark _)))))))))))))))), ?_⟩
    -- size
    refine q_asg (v := .int ((cellN ns 0).fmod 41)) (ev_op (ev_call (ea_cons (ev_var rfl) (ea_cons ev_c ea_nil)) (v_law_cell 0 hS)) ev_c (rv_mod (by decide))) (fun H1 e1 => ?_)
    have hS1 := ex_l e1 hS
    refine q_ifAsg (b := decide (((cellN ns 0).fdiv 41).fmod 8 = 1)) (v := .int (if ((cellN ns 0).fdiv 41).fmod 8 = 1 then 400 else (cellN ns 0).fmod 41))
      (et_test (ev_op (ev_op (ev_op (ev_call (ea_cons (ev_var rfl) (ea_cons ev_c ea_nil)) (v_law_cell 0 hS1)) ev_c (rv_fdiv (by decide) (by decide))) ev_c (rv_mod (by decide))) ev_c rv_eqI))
      (fun hb => by rw [if_pos (of_decide_eq_true hb)]; exact ev_c) (fun hb => by rw [if_neg (of_decide_eq_false hb)]; rfl) (fun H2 e2 => ?_)
    have hsz : 0 ≤ (if ((cellN ns 0).fdiv 41).fmod 8 = 1 then 400 else (cellN ns 0).fmod 41) ∧ (if ((cellN ns 0).fdiv 41).fmod 8 = 1 then 400 else (cellN ns 0).fmod 41) ≤ 400 := by
      have h1 := Int.fmod_nonneg_of_pos (cellN ns 0) (show (0 : Int) < 41 by decide)
      have h2 := Int.fmod_lt_of_pos (cellN ns 0) (show (0 : Int) < 41 by decide)
      split <;> omega
    generalize (if ((cellN ns 0).fdiv 41).fmod 8 = 1 then 400 else (cellN ns 0).fmod 41) = sz at hsz
    obtain ⟨n, rfl⟩ : ∃ n : Nat, sz = (n : Int) := ⟨sz.toNat, by omega⟩
    have hS2 := ex_l e2 hS1
    -- chars, text
    refine q_asg (ev_call ea_nil v_law_chars) (fun H3 e3 => ?_)
    have hS3 := ex_l e3 hS2
    have hin : ∀ v ∈ lvals (cellN ns 1) n 95, 0 ≤ v ∧ v < 95 := lvals_in (by decide) n
    let f : V → V := fun x => match x with | .int v => .str ⟨#[charsS.cps.toList.getD v.toNat 0]⟩ | _ => .non
    have hm : ((lvals (cellN ns 1) n 95).map V.int).map f = ((drawn (lvals (cellN ns 1) n 95)).map fun c => (⟨#[c]⟩ : Str)).map V.str := by
      unfold drawn
      rw [List.map_map, List.map_map, List.map_map]
      rfl
    have hlen : (drawn (lvals (cellN ns 1) n 95)).length = n := by
      unfold drawn
      rw [List.length_map, lvals_len]
    have hdr := drawn_in hin
    have hjoin : Txt.join "" ((drawn (lvals (cellN ns 1) n 95)).map fun c => (⟨#[c]⟩ : Str)) = ⟨(drawn (lvals (cellN ns 1) n 95)).toArray⟩ := by
      refine str_ext ?_
      rw [joinE, List.map_map]
      show ((drawn (lvals (cellN ns 1) n 95)).map fun c => [c]).flatten = drawn (lvals (cellN ns 1) n 95)
      generalize drawn (lvals (cellN ns 1) n 95) = l
      induction l with
      | nil => rfl
      | cons c r ih => rw [List.map_cons, List.flatten_cons, ih]; rfl
    refine q_asg (v := .str ⟨(drawn (lvals (cellN ns 1) n 95)).toArray⟩) ?_ (fun H4 e4 => ?_)
    · rw [← hjoin]
      refine ev_joinL (K := K) ev_c ?_ ?_
      · rw [← hm]
        refine el_mapNL f (el_call (ea_cons (ev_call (ea_cons (ev_var rfl) (ea_cons ev_c ea_nil)) (v_law_cell 1 hS3)) (ea_cons (ev_var rfl) (ea_cons ev_c ea_nil))) (l_law_values (by omega) (by decide) (by decide))) ?_ (fun _ => rfl) ?_
        · rw [List.length_map, lvals_len]
          omega
        · intro x hx H5 _
          obtain ⟨v, hv, rfl⟩ := List.mem_map.mp hx
          have hb := hin v hv
          refine ev_op (ev_var rfl) (ev_var rfl) (rv_ixS (by decide +kernel) ?_)
          obtain ⟨j, rfl⟩ : ∃ j : Nat, v = (j : Int) := ⟨v.toNat, by omega⟩
          refine atI_nat ?_
          show _ = some (charsS.cps.toList.getD j 0)
          rw [List.getD_eq_getElem?_getD, List.getElem?_eq_getElem (by rw [chars_len]; omega)]
          rfl
      · rw [List.length_map, hlen]
        have hs := sum1 (drawn (lvals (cellN ns 1) n 95))
        rw [hlen] at hs
        rw [hs]
        show n + n * 0 ≤ 16777216
        omega
    generalize hl : drawn (lvals (cellN ns 1) n 95) = l at hdr hlen
    have hS4 := ex_l e4 hS3
    have hzs : (⟨l.toArray⟩ : Str).cps.size = n := by simpa using hlen
    have hok := codes_ok hdr
    -- codes
    let g : V → V := fun v => match v with | .str x => V.int ((x.cps.getD 0 0 : Nat) : Int) | _ => .non
    have hm2 : (sgns ⟨l.toArray⟩).map g = (codes ⟨l.toArray⟩).map V.int := by
      rw [sgns_map]
      unfold codes
      rw [List.map_map]
      rfl
    refine q_asgL (el_mapS g (ev_var rfl) (by omega) (fun _ => rfl) (fun c hc H5 _ => ev_call (ea_cons (ev_var rfl) ea_nil) (v_law_code (hdr c (by simpa using hc))))) (fun pc H5 _ e5 d5 => ?_)
    rw [hm2] at d5
    have hS5 := ex_l e5 hS4
    -- the bad text
    refine q_cut (M := fun σ' H' => Ex H5 H' ∧ ∃ y6 y7 y8, σ' = [some (.ref a), some (.int (n : Int)), some (.str charsS), some (.str ⟨l.toArray⟩), none, some (.ref pc), y6, y7, y8, none, none]) ?_ ?_
    · refine s_when (b := decide ((cellN ns 2).fmod 4 = 1)) (et_test (ev_op (ev_op (ev_call (ea_cons (ev_var rfl) (ea_cons ev_c ea_nil)) (v_law_cell 2 hS5)) ev_c (rv_mod (by decide))) ev_c rv_eqI)) (fun hb H6 e6 => ?_) (fun hb H6 e6 => ⟨e6, _, _, _, rfl⟩)
      have hS6 := ex_l e6 hS5
      have hln : (⟨l.toArray⟩ : Str).length = n := by rw [len_size]; simpa using hlen
      refine q_asg (v := .int (((cellN ns 2).fdiv 4).fmod ((n : Int) + 1))) (ev_op (ev_op (ev_call (ea_cons (ev_var rfl) (ea_cons ev_c ea_nil)) (v_law_cell 2 hS6)) ev_c (rv_fdiv (by decide) (by decide))) (ev_op (x := .int (n : Int)) (ev_cb (ea_cons (ev_var rfl) ea_nil) ?_) ev_c rv_I0) (rv_mod (by omega))) (fun H7 e7 => ?_)
      · rw [← hln]
        exact rc_lenS (by omega)
      generalize ((cellN ns 2).fdiv 4).fmod ((n : Int) + 1) = at_
      have c1 := cut_len ⟨l.toArray⟩ none (some at_)
      have c2 := cut_len ⟨l.toArray⟩ (some at_) none
      generalize hx1 : cutS ⟨l.toArray⟩ none (some at_) = x1 at c1
      generalize hx2 : cutS ⟨l.toArray⟩ (some at_) none = x2 at c2
      have a1 : (x1 ++ ("\t" : Str)).length = x1.length + 1 := by rw [len_size, app_toList, List.length_append, ← len_size]; rfl
      have a2 : (x1 ++ ("\t" : Str) ++ x2).length = x1.length + 1 + x2.length := by rw [len_size, app_toList, List.length_append, ← len_size, ← len_size, a1]
      refine q_asg (v := .str (x1 ++ ("\t" : Str) ++ x2)) (ev_op (ev_op (by rw [← hx1]; exact ev_sub (ev_var rfl) eo_none (eo_some (ev_var rfl)) (by omega)) ev_c (rv_addS (by show x1.length + 1 ≤ 100000; omega))) (by rw [← hx2]; exact ev_sub (ev_var rfl) (eo_some (ev_var rfl)) eo_none (by omega)) (rv_addS (by rw [a1]; omega))) (fun H8 e8 => ?_)
      have hbad : (codes (x1 ++ ("\t" : Str) ++ x2)).all isCh = false := codes_bad (by
        rw [app_toList, app_toList]
        exact List.mem_append_left _ (List.mem_append_right _ (by decide)))
      have hsz2 : (x1 ++ ("\t" : Str) ++ x2).cps.size ≤ 1000 := by
        have : (x1 ++ ("\t" : Str) ++ x2).cps.size = (x1 ++ ("\t" : Str) ++ x2).length := rfl
        rw [this, a2]
        omega
      refine s_when (b := (!true || !true)) (et_or (et_not (et_B (ev_call (ea_cons (ev_var rfl) ea_nil) (v_law_refuses hsz2 hbad)))) (fun _ => et_not (et_B (ev_call (ea_cons (ev_var rfl) ea_nil) (v_law_refuses hsz2 hbad))))) (fun hb => nomatch hb) (fun _ H9 e9 => ?_)
      exact ⟨e6.trans (e7.trans (e8.trans e9)), _, _, _, rfl⟩
    rintro σ' H6 ⟨e6, y6, y7, y8, rfl⟩
    have hP : SqL K H6 pc ((codes ⟨l.toArray⟩).map V.int) := sq_of (e6 _ _ d5)
    have hcl : (codes ⟨l.toArray⟩).length = n := by unfold codes; rw [List.length_map]; simpa using hlen
    have hsm := codes_small hdr
    -- actual
    refine q_asgL (el_call (ea_cons (ev_var rfl) ea_nil) (l_codes_of (by omega) hok)) (fun pa H7 _ e7 d7 => ?_)
    have hA : SqL K H7 pa ((codes ⟨l.toArray⟩).map V.int) := sq_of d7
    have hP7 := ex_l e7 hP
    generalize hc : codes ⟨l.toArray⟩ = cs at *
    refine q_when (b := !decide ((PyData.list (cs.map PyData.int)).shown = (PyData.list (cs.map PyData.int)).shown)) (et_test (ev_op (ev_reprI (ev_var rfl) hA (by omega) hsm) (ev_reprI (ev_var rfl) hP7 (by omega) hsm) rv_neS)) (fun hb => by rw [decide_eq_true rfl] at hb; cases hb) (fun _ H8 e8 => ?_)
    have hA8 := ex_l e8 hA
    refine q_asg (ev_call (ea_cons (ev_var rfl) ea_nil) (v_text_of hA8 (by omega) hok)) (fun H9 e9 => ?_)
    have ht : textOf cs = ⟨l.toArray⟩ := by rw [← hc]; exact text_codes l
    rw [ht]
    refine s_ret (v := .bl true) (ev_is (ev_andV (ev_cb (ea_cons (ev_var rfl) (ea_cons ev_c ea_nil)) rc_isStr) (fun _ => ev_andV (ev_op (ev_var rfl) (ev_var rfl) rv_eqS) (fun _ => ev_op (ev_reprI (ev_var rfl) (ex_l e9 hA8) (by omega) hsm) (ev_reprI (ev_var rfl) (ex_l e9 (ex_l e8 hP7)) (by omega) hsm) rv_eqS))) ?_) (fun H' _ => k H')
    rw [decide_eq_true rfl, decide_eq_true rfl]
    rfl
theorem law_at (K : PySem.W.Frag) (H : Hp) (a : Addr) (ns : List Int) (hl : ns.length ≤ 63) (hO : Only H) (hS : SqL K H a (ns.map V.int)) : sp_law K [.ref a] H (fun v _ => v = .bl true) fun _ _ _ => False := ⟨a, ns, rfl, hS, fun _ => rfl⟩
end
/-! ### the head's facts -/
theorem mk_txt {K : PySem.W.Frag} {h : Heap} {mg : Str → Option Value} {p1 p2 p3 p4 p5 p6 p7 p8 p9 p10 p11 C_PlinthError C_NotText C_NotNumeral C_BadFuel : Addr} (X : K.In h) (G : h.Ns mainGlobals mg)
    {t_NEWLINE t_FROM_AMPERSAND t_FROM_SPACE : Tok}
    {od1 an1 od2 an2 od3 an3 od4 an4 od5 an5 od6 an6 od7 an7 od8 an8 od9 an9 od10 an10 od11 an11 : Option Addr} {sl1 sl2 sl3 sl4 sl5 sl6 sl7 sl8 sl9 sl10 sl11 : Array (Option Value)}
    {oc1 kV1 dc1 pm1 cd1 ct1 oc2 kV2 dc2 pm2 cd2 ct2 oc3 kV3 dc3 pm3 cd3 ct3 oc4 kV4 dc4 pm4 cd4 ct4 oc5 kV5 dc5 pm5 cd5 ct5 oc6 kV6 dc6 pm6 cd6 ct6 oc7 kV7 dc7 pm7 cd7 ct7 oc8 kV8 dc8 pm8 cd8 ct8 oc9 kV9 dc9 pm9 cd9 ct9 oc10 kV10 dc10 pm10 cd10 ct10 oc11 kV11 dc11 pm11 cd11 ct11 : Value}
    (a1 : PySem.W.nsIn K mainGlobals "is_character" = some (some (.ref p1)))
    (l1 : K.lookup p1 = some ⟨oc1, od1, .func (PySem.W.fnOf "is_character" "is_character" (defArgs s_is_character) (defBody s_is_character) (defScope s_is_character) .none kV1 dc1 pm1 an1 cd1 ct1), sl1⟩)
    (c1 : PySem.W.codeIn K cd1 "is_character" = true)
    (k1 : PySem.W.keepIn K (.ref p1) = true)
    (a2 : PySem.W.nsIn K mainGlobals "codes_of" = some (some (.ref p2)))
    (l2 : K.lookup p2 = some ⟨oc2, od2, .func (PySem.W.fnOf "codes_of" "codes_of" (defArgs s_codes_of) (defBody s_codes_of) (defScope s_codes_of) .none kV2 dc2 pm2 an2 cd2 ct2), sl2⟩)
    (c2 : PySem.W.codeIn K cd2 "codes_of" = true)
    (k2 : PySem.W.keepIn K (.ref p2) = true)
    (a3 : PySem.W.nsIn K mainGlobals "_character" = some (some (.ref p3)))
    (l3 : K.lookup p3 = some ⟨oc3, od3, .func (PySem.W.fnOf "_character" "_character" (defArgs s_character) (defBody s_character) (defScope s_character) .none kV3 dc3 pm3 an3 cd3 ct3), sl3⟩)
    (c3 : PySem.W.codeIn K cd3 "_character" = true)
    (k3 : PySem.W.keepIn K (.ref p3) = true)
    (a4 : PySem.W.nsIn K mainGlobals "text_of" = some (some (.ref p4)))
    (l4 : K.lookup p4 = some ⟨oc4, od4, .func (PySem.W.fnOf "text_of" "text_of" (defArgs s_text_of) (defBody s_text_of) (defScope s_text_of) .none kV4 dc4 pm4 an4 cd4 ct4), sl4⟩)
    (c4 : PySem.W.codeIn K cd4 "text_of" = true)
    (k4 : PySem.W.keepIn K (.ref p4) = true)
    (a5 : PySem.W.nsIn K mainGlobals "_law_cell" = some (some (.ref p5)))
    (l5 : K.lookup p5 = some ⟨oc5, od5, .func (PySem.W.fnOf "_law_cell" "_law_cell" (defArgs s_law_cell) (defBody s_law_cell) (defScope s_law_cell) .none kV5 dc5 pm5 an5 cd5 ct5), sl5⟩)
    (c5 : PySem.W.codeIn K cd5 "_law_cell" = true)
    (k5 : PySem.W.keepIn K (.ref p5) = true)
    (a6 : PySem.W.nsIn K mainGlobals "_law_values" = some (some (.ref p6)))
    (l6 : K.lookup p6 = some ⟨oc6, od6, .func (PySem.W.fnOf "_law_values" "_law_values" (defArgs s_law_values) (defBody s_law_values) (defScope s_law_values) .none kV6 dc6 pm6 an6 cd6 ct6), sl6⟩)
    (c6 : PySem.W.codeIn K cd6 "_law_values" = true)
    (k6 : PySem.W.keepIn K (.ref p6) = true)
    (a7 : PySem.W.nsIn K mainGlobals "_law_chars" = some (some (.ref p7)))
    (l7 : K.lookup p7 = some ⟨oc7, od7, .func (PySem.W.fnOf "_law_chars" "_law_chars" (defArgs s_law_chars) (defBody s_law_chars) (defScope s_law_chars) .none kV7 dc7 pm7 an7 cd7 ct7), sl7⟩)
    (c7 : PySem.W.codeIn K cd7 "_law_chars" = true)
    (k7 : PySem.W.keepIn K (.ref p7) = true)
    (a8 : PySem.W.nsIn K mainGlobals "_law_code" = some (some (.ref p8)))
    (l8 : K.lookup p8 = some ⟨oc8, od8, .func (PySem.W.fnOf "_law_code" "_law_code" (defArgs s_law_code) (defBody s_law_code) (defScope s_law_code) .none kV8 dc8 pm8 an8 cd8 ct8), sl8⟩)
    (c8 : PySem.W.codeIn K cd8 "_law_code" = true)
    (k8 : PySem.W.keepIn K (.ref p8) = true)
    (a9 : PySem.W.nsIn K mainGlobals "_law_refuses" = some (some (.ref p9)))
    (l9 : K.lookup p9 = some ⟨oc9, od9, .func (PySem.W.fnOf "_law_refuses" "_law_refuses" (defArgs s_law_refuses) (defBody s_law_refuses) (defScope s_law_refuses) .none kV9 dc9 pm9 an9 cd9 ct9), sl9⟩)
    (c9 : PySem.W.codeIn K cd9 "_law_refuses" = true)
    (k9 : PySem.W.keepIn K (.ref p9) = true)
    (a10 : PySem.W.nsIn K mainGlobals "_law_refuses_base" = some (some (.ref p10)))
    (l10 : K.lookup p10 = some ⟨oc10, od10, .func (PySem.W.fnOf "_law_refuses_base" "_law_refuses_base" (defArgs s_law_refuses_base) (defBody s_law_refuses_base) (defScope s_law_refuses_base) .none kV10 dc10 pm10 an10 cd10 ct10), sl10⟩)
    (c10 : PySem.W.codeIn K cd10 "_law_refuses_base" = true)
    (k10 : PySem.W.keepIn K (.ref p10) = true)
    (a11 : PySem.W.nsIn K mainGlobals "law" = some (some (.ref p11)))
    (l11 : K.lookup p11 = some ⟨oc11, od11, .func (PySem.W.fnOf "law" "law" (defArgs s_law) (defBody s_law) (defScope s_law) .none kV11 dc11 pm11 an11 cd11 ct11), sl11⟩)
    (c11 : PySem.W.codeIn K cd11 "law" = true)
    (k11 : PySem.W.keepIn K (.ref p11) = true)
    (g_PlinthError : PySem.W.nsIn K mainGlobals "PlinthError" = some (some (.ref C_PlinthError)))
    (k_PlinthError : PySem.W.keepIn K (.ref C_PlinthError) = true)
    (x_PlinthError : PySem.W.excIn K C_PlinthError [.type "ValueError", .type "Exception", .type "BaseException", .type "object"] "ValueError.__new__" = true)
    (b_PlinthError : PySem.W.subIn K (.ref C_PlinthError) (.type "BaseException") = some true)
    (t_PlinthError : PySem.W.typeIn K (.ref C_PlinthError) = some (.type "type"))
    (hd_PlinthError : PySem.W.hasDictIn K C_PlinthError = true)
    (s_PlinthError : PySem.W.subIn K (.ref C_PlinthError) (.ref C_PlinthError) = some true)
    (i_PlinthError : PySem.W.isClsIn K C_PlinthError = true)
    (g_NotText : PySem.W.nsIn K mainGlobals "NotText" = some (some (.ref C_NotText)))
    (k_NotText : PySem.W.keepIn K (.ref C_NotText) = true)
    (x_NotText : PySem.W.excIn K C_NotText [.type "ValueError", .type "Exception", .type "BaseException", .type "object"] "ValueError.__new__" = true)
    (b_NotText : PySem.W.subIn K (.ref C_NotText) (.type "BaseException") = some true)
    (t_NotText : PySem.W.typeIn K (.ref C_NotText) = some (.type "type"))
    (hd_NotText : PySem.W.hasDictIn K C_NotText = true)
    (s_NotText : PySem.W.subIn K (.ref C_NotText) (.ref C_NotText) = some true)
    (i_NotText : PySem.W.isClsIn K C_NotText = true)
    (ga_NotText : PySem.W.findIn K (.ref C_NotText) "__getattribute__" = some (some (.builtin "BaseException.__getattribute__")))
    (gg_NotText : PySem.W.findIn K (.ref C_NotText) "__getattr__" = some none)
    (gc_NotText : PySem.W.findIn K (.ref C_NotText) "__class__" = some (some (.builtin "object.__class__")))
    (gs_NotText : PySem.W.specialIn K (.builtin "object.__class__") "__get__" = some (some (.builtin "getset_descriptor.__get__")))
    (gt_NotText : PySem.W.takesIn K (.builtin "object.__class__") = some true)
    (gm_NotText : PySem.W.mroIn K C_NotText (.type "object") = some true)
    (g_NotNumeral : PySem.W.nsIn K mainGlobals "NotNumeral" = some (some (.ref C_NotNumeral)))
    (k_NotNumeral : PySem.W.keepIn K (.ref C_NotNumeral) = true)
    (x_NotNumeral : PySem.W.excIn K C_NotNumeral [.type "ValueError", .type "Exception", .type "BaseException", .type "object"] "ValueError.__new__" = true)
    (b_NotNumeral : PySem.W.subIn K (.ref C_NotNumeral) (.type "BaseException") = some true)
    (t_NotNumeral : PySem.W.typeIn K (.ref C_NotNumeral) = some (.type "type"))
    (hd_NotNumeral : PySem.W.hasDictIn K C_NotNumeral = true)
    (s_NotNumeral : PySem.W.subIn K (.ref C_NotNumeral) (.ref C_NotNumeral) = some true)
    (i_NotNumeral : PySem.W.isClsIn K C_NotNumeral = true)
    (g_BadFuel : PySem.W.nsIn K mainGlobals "BadFuel" = some (some (.ref C_BadFuel)))
    (k_BadFuel : PySem.W.keepIn K (.ref C_BadFuel) = true)
    (x_BadFuel : PySem.W.excIn K C_BadFuel [.type "ValueError", .type "Exception", .type "BaseException", .type "object"] "ValueError.__new__" = true)
    (b_BadFuel : PySem.W.subIn K (.ref C_BadFuel) (.type "BaseException") = some true)
    (t_BadFuel : PySem.W.typeIn K (.ref C_BadFuel) = some (.type "type"))
    (hd_BadFuel : PySem.W.hasDictIn K C_BadFuel = true)
    (s_BadFuel : PySem.W.subIn K (.ref C_BadFuel) (.ref C_BadFuel) = some true)
    (i_BadFuel : PySem.W.isClsIn K C_BadFuel = true)
    (sub_NotText_PlinthError : PySem.W.subIn K (.ref C_NotText) (.ref C_PlinthError) = some true)
    (kit_NotText_ValueError : PySem.W.kitOne K (.ref C_NotText) (.type "ValueError") = some true)
    (kit_NotText_NotNumeral : PySem.W.kitOne K (.ref C_NotText) (.ref C_NotNumeral) = some false)
    (kit_NotText_BadFuel : PySem.W.kitOne K (.ref C_NotText) (.ref C_BadFuel) = some false)
    (c_NEWLINE : PySem.W.nsIn K mainGlobals "NEWLINE" = some (some (.int 10 t_NEWLINE)))
    (c_FROM_AMPERSAND : PySem.W.nsIn K mainGlobals "_FROM_AMPERSAND" = some (some (.str str_FROM_AMPERSAND t_FROM_AMPERSAND)))
    (c_FROM_SPACE : PySem.W.nsIn K mainGlobals "_FROM_SPACE" = some (some (.str str_FROM_SPACE t_FROM_SPACE)))
    (n_ValueError : PySem.W.nsIn K mainGlobals "ValueError" = some none)
    (n_int : PySem.W.nsIn K mainGlobals "int" = some none)
    (n_isinstance : PySem.W.nsIn K mainGlobals "isinstance" = some none)
    (n_len : PySem.W.nsIn K mainGlobals "len" = some none)
    (n_ord : PySem.W.nsIn K mainGlobals "ord" = some none)
    (n_range : PySem.W.nsIn K mainGlobals "range" = some none)
    (n_repr : PySem.W.nsIn K mainGlobals "repr" = some none)
    (n_str : PySem.W.nsIn K mainGlobals "str" = some none)
    : ∃ T : Txt K mg, T.f_law = p11 := by
  exact ⟨{
      f_is_character := p1
      d_is_character := _
      F_is_character := fun_mk (st := s_is_character) l1 c1 k1
      b_is_character := (fun_mk (st := s_is_character) l1 c1 k1).binds (ps := ["code"]) fun _ _ _ _ _ _ us hl => match us, hl with | [_], _ => rfl
      g_is_character := PySem.W.mg_of X G a1
      f_codes_of := p2
      d_codes_of := _
      F_codes_of := fun_mk (st := s_codes_of) l2 c2 k2
      b_codes_of := (fun_mk (st := s_codes_of) l2 c2 k2).binds (ps := ["text"]) fun _ _ _ _ _ _ us hl => match us, hl with | [_], _ => rfl
      g_codes_of := PySem.W.mg_of X G a2
      f_character := p3
      d_character := _
      F_character := fun_mk (st := s_character) l3 c3 k3
      b_character := (fun_mk (st := s_character) l3 c3 k3).binds (ps := ["code"]) fun _ _ _ _ _ _ us hl => match us, hl with | [_], _ => rfl
      g_character := PySem.W.mg_of X G a3
      f_text_of := p4
      d_text_of := _
      F_text_of := fun_mk (st := s_text_of) l4 c4 k4
      b_text_of := (fun_mk (st := s_text_of) l4 c4 k4).binds (ps := ["codes"]) fun _ _ _ _ _ _ us hl => match us, hl with | [_], _ => rfl
      g_text_of := PySem.W.mg_of X G a4
      f_law_cell := p5
      d_law_cell := _
      F_law_cell := fun_mk (st := s_law_cell) l5 c5 k5
      b_law_cell := (fun_mk (st := s_law_cell) l5 c5 k5).binds (ps := ["script", "k"]) fun _ _ _ _ _ _ us hl => match us, hl with | [_, _], _ => rfl
      g_law_cell := PySem.W.mg_of X G a5
      f_law_values := p6
      d_law_values := _
      F_law_values := fun_mk (st := s_law_values) l6 c6 k6
      b_law_values := (fun_mk (st := s_law_values) l6 c6 k6).binds (ps := ["cell", "count", "size"]) fun _ _ _ _ _ _ us hl => match us, hl with | [_, _, _], _ => rfl
      g_law_values := PySem.W.mg_of X G a6
      f_law_chars := p7
      d_law_chars := _
      F_law_chars := fun_mk (st := s_law_chars) l7 c7 k7
      b_law_chars := (fun_mk (st := s_law_chars) l7 c7 k7).binds (ps := []) fun _ _ _ _ _ _ us hl => match us, hl with | [], _ => rfl
      g_law_chars := PySem.W.mg_of X G a7
      f_law_code := p8
      d_law_code := _
      F_law_code := fun_mk (st := s_law_code) l8 c8 k8
      b_law_code := (fun_mk (st := s_law_code) l8 c8 k8).binds (ps := ["char"]) fun _ _ _ _ _ _ us hl => match us, hl with | [_], _ => rfl
      g_law_code := PySem.W.mg_of X G a8
      f_law_refuses := p9
      d_law_refuses := _
      F_law_refuses := fun_mk (st := s_law_refuses) l9 c9 k9
      b_law_refuses := (fun_mk (st := s_law_refuses) l9 c9 k9).binds (ps := ["text"]) fun _ _ _ _ _ _ us hl => match us, hl with | [_], _ => rfl
      g_law_refuses := PySem.W.mg_of X G a9
      f_law_refuses_base := p10
      d_law_refuses_base := _
      F_law_refuses_base := fun_mk (st := s_law_refuses_base) l10 c10 k10
      b_law_refuses_base := (fun_mk (st := s_law_refuses_base) l10 c10 k10).binds (ps := ["text"]) fun _ _ _ _ _ _ us hl => match us, hl with | [_], _ => rfl
      g_law_refuses_base := PySem.W.mg_of X G a10
      f_law := p11
      d_law := _
      F_law := fun_mk (st := s_law) l11 c11 k11
      b_law := (fun_mk (st := s_law) l11 c11 k11).binds (ps := ["script"]) fun _ _ _ _ _ _ us hl => match us, hl with | [_], _ => rfl
      g_law := PySem.W.mg_of X G a11
      h_law := fun s v => .of_eq rfl
      C_PlinthError := C_PlinthError
      g_PlinthError := PySem.W.mg_of X G g_PlinthError
      k_PlinthError := k_PlinthError
      x_PlinthError := x_PlinthError
      b_PlinthError := b_PlinthError
      t_PlinthError := t_PlinthError
      hd_PlinthError := hd_PlinthError
      s_PlinthError := s_PlinthError
      i_PlinthError := i_PlinthError
      C_NotText := C_NotText
      g_NotText := PySem.W.mg_of X G g_NotText
      k_NotText := k_NotText
      x_NotText := x_NotText
      b_NotText := b_NotText
      t_NotText := t_NotText
      hd_NotText := hd_NotText
      s_NotText := s_NotText
      i_NotText := i_NotText
      ga_NotText := ga_NotText
      gg_NotText := gg_NotText
      gc_NotText := gc_NotText
      gs_NotText := gs_NotText
      gt_NotText := gt_NotText
      gm_NotText := gm_NotText
      C_NotNumeral := C_NotNumeral
      g_NotNumeral := PySem.W.mg_of X G g_NotNumeral
      k_NotNumeral := k_NotNumeral
      x_NotNumeral := x_NotNumeral
      b_NotNumeral := b_NotNumeral
      t_NotNumeral := t_NotNumeral
      hd_NotNumeral := hd_NotNumeral
      s_NotNumeral := s_NotNumeral
      i_NotNumeral := i_NotNumeral
      C_BadFuel := C_BadFuel
      g_BadFuel := PySem.W.mg_of X G g_BadFuel
      k_BadFuel := k_BadFuel
      x_BadFuel := x_BadFuel
      b_BadFuel := b_BadFuel
      t_BadFuel := t_BadFuel
      hd_BadFuel := hd_BadFuel
      s_BadFuel := s_BadFuel
      i_BadFuel := i_BadFuel
      sub_NotText_PlinthError := sub_NotText_PlinthError
      kit_NotText_ValueError := kit_NotText_ValueError
      kit_NotText_NotNumeral := kit_NotText_NotNumeral
      kit_NotText_BadFuel := kit_NotText_BadFuel
      t_NEWLINE := t_NEWLINE
      c_NEWLINE := PySem.W.mg_of X G c_NEWLINE
      t_FROM_AMPERSAND := t_FROM_AMPERSAND
      c_FROM_AMPERSAND := PySem.W.mg_of X G c_FROM_AMPERSAND
      t_FROM_SPACE := t_FROM_SPACE
      c_FROM_SPACE := PySem.W.mg_of X G c_FROM_SPACE
      n_ValueError := PySem.W.mg_none_of X G n_ValueError
      n_int := PySem.W.mg_none_of X G n_int
      n_isinstance := PySem.W.mg_none_of X G n_isinstance
      n_len := PySem.W.mg_none_of X G n_len
      n_ord := PySem.W.mg_none_of X G n_ord
      n_range := PySem.W.mg_none_of X G n_range
      n_repr := PySem.W.mg_none_of X G n_repr
      n_str := PySem.W.mg_none_of X G n_str }, rfl⟩
theorem all_mk {l : PySem.W.OpenLaw} {w : World} {K : PySem.W.Frag} {h : Heap} {mg : Str → Option Value} {fa p1 p2 p3 p4 p5 p6 p7 p8 p9 p10 p11 C_PlinthError C_NotText C_NotNumeral C_BadFuel : Addr} (X : K.In h) (G : h.Ns mainGlobals mg) (hfa : mg "law" = some (.ref fa))
    {t_NEWLINE t_FROM_AMPERSAND t_FROM_SPACE : Tok}
    {od1 an1 od2 an2 od3 an3 od4 an4 od5 an5 od6 an6 od7 an7 od8 an8 od9 an9 od10 an10 od11 an11 : Option Addr} {sl1 sl2 sl3 sl4 sl5 sl6 sl7 sl8 sl9 sl10 sl11 : Array (Option Value)}
    {oc1 kV1 dc1 pm1 cd1 ct1 oc2 kV2 dc2 pm2 cd2 ct2 oc3 kV3 dc3 pm3 cd3 ct3 oc4 kV4 dc4 pm4 cd4 ct4 oc5 kV5 dc5 pm5 cd5 ct5 oc6 kV6 dc6 pm6 cd6 ct6 oc7 kV7 dc7 pm7 cd7 ct7 oc8 kV8 dc8 pm8 cd8 ct8 oc9 kV9 dc9 pm9 cd9 ct9 oc10 kV10 dc10 pm10 cd10 ct10 oc11 kV11 dc11 pm11 cd11 ct11 : Value}
    (a1 : PySem.W.nsIn K mainGlobals "is_character" = some (some (.ref p1)))
    (l1 : K.lookup p1 = some ⟨oc1, od1, .func (PySem.W.fnOf "is_character" "is_character" (defArgs s_is_character) (defBody s_is_character) (defScope s_is_character) .none kV1 dc1 pm1 an1 cd1 ct1), sl1⟩)
    (c1 : PySem.W.codeIn K cd1 "is_character" = true)
    (k1 : PySem.W.keepIn K (.ref p1) = true)
    (a2 : PySem.W.nsIn K mainGlobals "codes_of" = some (some (.ref p2)))
    (l2 : K.lookup p2 = some ⟨oc2, od2, .func (PySem.W.fnOf "codes_of" "codes_of" (defArgs s_codes_of) (defBody s_codes_of) (defScope s_codes_of) .none kV2 dc2 pm2 an2 cd2 ct2), sl2⟩)
    (c2 : PySem.W.codeIn K cd2 "codes_of" = true)
    (k2 : PySem.W.keepIn K (.ref p2) = true)
    (a3 : PySem.W.nsIn K mainGlobals "_character" = some (some (.ref p3)))
    (l3 : K.lookup p3 = some ⟨oc3, od3, .func (PySem.W.fnOf "_character" "_character" (defArgs s_character) (defBody s_character) (defScope s_character) .none kV3 dc3 pm3 an3 cd3 ct3), sl3⟩)
    (c3 : PySem.W.codeIn K cd3 "_character" = true)
    (k3 : PySem.W.keepIn K (.ref p3) = true)
    (a4 : PySem.W.nsIn K mainGlobals "text_of" = some (some (.ref p4)))
    (l4 : K.lookup p4 = some ⟨oc4, od4, .func (PySem.W.fnOf "text_of" "text_of" (defArgs s_text_of) (defBody s_text_of) (defScope s_text_of) .none kV4 dc4 pm4 an4 cd4 ct4), sl4⟩)
    (c4 : PySem.W.codeIn K cd4 "text_of" = true)
    (k4 : PySem.W.keepIn K (.ref p4) = true)
    (a5 : PySem.W.nsIn K mainGlobals "_law_cell" = some (some (.ref p5)))
    (l5 : K.lookup p5 = some ⟨oc5, od5, .func (PySem.W.fnOf "_law_cell" "_law_cell" (defArgs s_law_cell) (defBody s_law_cell) (defScope s_law_cell) .none kV5 dc5 pm5 an5 cd5 ct5), sl5⟩)
    (c5 : PySem.W.codeIn K cd5 "_law_cell" = true)
    (k5 : PySem.W.keepIn K (.ref p5) = true)
    (a6 : PySem.W.nsIn K mainGlobals "_law_values" = some (some (.ref p6)))
    (l6 : K.lookup p6 = some ⟨oc6, od6, .func (PySem.W.fnOf "_law_values" "_law_values" (defArgs s_law_values) (defBody s_law_values) (defScope s_law_values) .none kV6 dc6 pm6 an6 cd6 ct6), sl6⟩)
    (c6 : PySem.W.codeIn K cd6 "_law_values" = true)
    (k6 : PySem.W.keepIn K (.ref p6) = true)
    (a7 : PySem.W.nsIn K mainGlobals "_law_chars" = some (some (.ref p7)))
    (l7 : K.lookup p7 = some ⟨oc7, od7, .func (PySem.W.fnOf "_law_chars" "_law_chars" (defArgs s_law_chars) (defBody s_law_chars) (defScope s_law_chars) .none kV7 dc7 pm7 an7 cd7 ct7), sl7⟩)
    (c7 : PySem.W.codeIn K cd7 "_law_chars" = true)
    (k7 : PySem.W.keepIn K (.ref p7) = true)
    (a8 : PySem.W.nsIn K mainGlobals "_law_code" = some (some (.ref p8)))
    (l8 : K.lookup p8 = some ⟨oc8, od8, .func (PySem.W.fnOf "_law_code" "_law_code" (defArgs s_law_code) (defBody s_law_code) (defScope s_law_code) .none kV8 dc8 pm8 an8 cd8 ct8), sl8⟩)
    (c8 : PySem.W.codeIn K cd8 "_law_code" = true)
    (k8 : PySem.W.keepIn K (.ref p8) = true)
    (a9 : PySem.W.nsIn K mainGlobals "_law_refuses" = some (some (.ref p9)))
    (l9 : K.lookup p9 = some ⟨oc9, od9, .func (PySem.W.fnOf "_law_refuses" "_law_refuses" (defArgs s_law_refuses) (defBody s_law_refuses) (defScope s_law_refuses) .none kV9 dc9 pm9 an9 cd9 ct9), sl9⟩)
    (c9 : PySem.W.codeIn K cd9 "_law_refuses" = true)
    (k9 : PySem.W.keepIn K (.ref p9) = true)
    (a10 : PySem.W.nsIn K mainGlobals "_law_refuses_base" = some (some (.ref p10)))
    (l10 : K.lookup p10 = some ⟨oc10, od10, .func (PySem.W.fnOf "_law_refuses_base" "_law_refuses_base" (defArgs s_law_refuses_base) (defBody s_law_refuses_base) (defScope s_law_refuses_base) .none kV10 dc10 pm10 an10 cd10 ct10), sl10⟩)
    (c10 : PySem.W.codeIn K cd10 "_law_refuses_base" = true)
    (k10 : PySem.W.keepIn K (.ref p10) = true)
    (a11 : PySem.W.nsIn K mainGlobals "law" = some (some (.ref p11)))
    (l11 : K.lookup p11 = some ⟨oc11, od11, .func (PySem.W.fnOf "law" "law" (defArgs s_law) (defBody s_law) (defScope s_law) .none kV11 dc11 pm11 an11 cd11 ct11), sl11⟩)
    (c11 : PySem.W.codeIn K cd11 "law" = true)
    (k11 : PySem.W.keepIn K (.ref p11) = true)
    (g_PlinthError : PySem.W.nsIn K mainGlobals "PlinthError" = some (some (.ref C_PlinthError)))
    (k_PlinthError : PySem.W.keepIn K (.ref C_PlinthError) = true)
    (x_PlinthError : PySem.W.excIn K C_PlinthError [.type "ValueError", .type "Exception", .type "BaseException", .type "object"] "ValueError.__new__" = true)
    (b_PlinthError : PySem.W.subIn K (.ref C_PlinthError) (.type "BaseException") = some true)
    (t_PlinthError : PySem.W.typeIn K (.ref C_PlinthError) = some (.type "type"))
    (hd_PlinthError : PySem.W.hasDictIn K C_PlinthError = true)
    (s_PlinthError : PySem.W.subIn K (.ref C_PlinthError) (.ref C_PlinthError) = some true)
    (i_PlinthError : PySem.W.isClsIn K C_PlinthError = true)
    (g_NotText : PySem.W.nsIn K mainGlobals "NotText" = some (some (.ref C_NotText)))
    (k_NotText : PySem.W.keepIn K (.ref C_NotText) = true)
    (x_NotText : PySem.W.excIn K C_NotText [.type "ValueError", .type "Exception", .type "BaseException", .type "object"] "ValueError.__new__" = true)
    (b_NotText : PySem.W.subIn K (.ref C_NotText) (.type "BaseException") = some true)
    (t_NotText : PySem.W.typeIn K (.ref C_NotText) = some (.type "type"))
    (hd_NotText : PySem.W.hasDictIn K C_NotText = true)
    (s_NotText : PySem.W.subIn K (.ref C_NotText) (.ref C_NotText) = some true)
    (i_NotText : PySem.W.isClsIn K C_NotText = true)
    (ga_NotText : PySem.W.findIn K (.ref C_NotText) "__getattribute__" = some (some (.builtin "BaseException.__getattribute__")))
    (gg_NotText : PySem.W.findIn K (.ref C_NotText) "__getattr__" = some none)
    (gc_NotText : PySem.W.findIn K (.ref C_NotText) "__class__" = some (some (.builtin "object.__class__")))
    (gs_NotText : PySem.W.specialIn K (.builtin "object.__class__") "__get__" = some (some (.builtin "getset_descriptor.__get__")))
    (gt_NotText : PySem.W.takesIn K (.builtin "object.__class__") = some true)
    (gm_NotText : PySem.W.mroIn K C_NotText (.type "object") = some true)
    (g_NotNumeral : PySem.W.nsIn K mainGlobals "NotNumeral" = some (some (.ref C_NotNumeral)))
    (k_NotNumeral : PySem.W.keepIn K (.ref C_NotNumeral) = true)
    (x_NotNumeral : PySem.W.excIn K C_NotNumeral [.type "ValueError", .type "Exception", .type "BaseException", .type "object"] "ValueError.__new__" = true)
    (b_NotNumeral : PySem.W.subIn K (.ref C_NotNumeral) (.type "BaseException") = some true)
    (t_NotNumeral : PySem.W.typeIn K (.ref C_NotNumeral) = some (.type "type"))
    (hd_NotNumeral : PySem.W.hasDictIn K C_NotNumeral = true)
    (s_NotNumeral : PySem.W.subIn K (.ref C_NotNumeral) (.ref C_NotNumeral) = some true)
    (i_NotNumeral : PySem.W.isClsIn K C_NotNumeral = true)
    (g_BadFuel : PySem.W.nsIn K mainGlobals "BadFuel" = some (some (.ref C_BadFuel)))
    (k_BadFuel : PySem.W.keepIn K (.ref C_BadFuel) = true)
    (x_BadFuel : PySem.W.excIn K C_BadFuel [.type "ValueError", .type "Exception", .type "BaseException", .type "object"] "ValueError.__new__" = true)
    (b_BadFuel : PySem.W.subIn K (.ref C_BadFuel) (.type "BaseException") = some true)
    (t_BadFuel : PySem.W.typeIn K (.ref C_BadFuel) = some (.type "type"))
    (hd_BadFuel : PySem.W.hasDictIn K C_BadFuel = true)
    (s_BadFuel : PySem.W.subIn K (.ref C_BadFuel) (.ref C_BadFuel) = some true)
    (i_BadFuel : PySem.W.isClsIn K C_BadFuel = true)
    (sub_NotText_PlinthError : PySem.W.subIn K (.ref C_NotText) (.ref C_PlinthError) = some true)
    (kit_NotText_ValueError : PySem.W.kitOne K (.ref C_NotText) (.type "ValueError") = some true)
    (kit_NotText_NotNumeral : PySem.W.kitOne K (.ref C_NotText) (.ref C_NotNumeral) = some false)
    (kit_NotText_BadFuel : PySem.W.kitOne K (.ref C_NotText) (.ref C_BadFuel) = some false)
    (c_NEWLINE : PySem.W.nsIn K mainGlobals "NEWLINE" = some (some (.int 10 t_NEWLINE)))
    (c_FROM_AMPERSAND : PySem.W.nsIn K mainGlobals "_FROM_AMPERSAND" = some (some (.str str_FROM_AMPERSAND t_FROM_AMPERSAND)))
    (c_FROM_SPACE : PySem.W.nsIn K mainGlobals "_FROM_SPACE" = some (some (.str str_FROM_SPACE t_FROM_SPACE)))
    (n_ValueError : PySem.W.nsIn K mainGlobals "ValueError" = some none)
    (n_int : PySem.W.nsIn K mainGlobals "int" = some none)
    (n_isinstance : PySem.W.nsIn K mainGlobals "isinstance" = some none)
    (n_len : PySem.W.nsIn K mainGlobals "len" = some none)
    (n_ord : PySem.W.nsIn K mainGlobals "ord" = some none)
    (n_range : PySem.W.nsIn K mainGlobals "range" = some none)
    (n_repr : PySem.W.nsIn K mainGlobals "repr" = some none)
    (n_str : PySem.W.nsIn K mainGlobals "str" = some none)
    : ∃ fd : FuncData, (∀ (s : Shared) (v : Value), BindsTo s fd ⟨[v], []⟩ [("script", v)]) ∧ ∀ base : Heap, K.In base → base.Ns mainGlobals mg → Gd.GOk l.prog w K mg base CX0 4 fa fd ["script"] (sp_law K) := by
  obtain ⟨T, eT⟩ := mk_txt X G a1 l1 c1 k1 a2 l2 c2 k2 a3 l3 c3 k3 a4 l4 c4 k4 a5 l5 c5 k5 a6 l6 c6 k6 a7 l7 c7 k7 a8 l8 c8 k8 a9 l9 c9 k9 a10 l10 c10 k10 a11 l11 c11 k11 g_PlinthError k_PlinthError x_PlinthError b_PlinthError t_PlinthError hd_PlinthError s_PlinthError i_PlinthError g_NotText k_NotText x_NotText b_NotText t_NotText hd_NotText s_NotText i_NotText ga_NotText gg_NotText gc_NotText gs_NotText gt_NotText gm_NotText g_NotNumeral k_NotNumeral x_NotNumeral b_NotNumeral t_NotNumeral hd_NotNumeral s_NotNumeral i_NotNumeral g_BadFuel k_BadFuel x_BadFuel b_BadFuel t_BadFuel hd_BadFuel s_BadFuel i_BadFuel sub_NotText_PlinthError kit_NotText_ValueError kit_NotText_NotNumeral kit_NotText_BadFuel c_NEWLINE c_FROM_AMPERSAND c_FROM_SPACE n_ValueError n_int n_isinstance n_len n_ord n_range n_repr n_str
  cases hfa.symm.trans T.g_law
  exact ⟨T.d_law, T.h_law, fun base _ _ => ok_law T⟩
end K00
open PySem PySem.W PyProof.Rows
set_option maxRecDepth 100000 in
set_option maxHeartbeats 0 in
theorem PySem.Challenge.cw_plinth_k00_codes_of_a_text_holds : PySem.Challenge.rw_plinth_k00_codes_of_a_text.Holds := by
  w_on; o_law; k_head; (case hw => w_witness2)
  k_fill
  refine Gd.g_walk (l := PySem.Challenge.rw_plinth_k00_codes_of_a_text) (n := 63) (k := 4) (x := "script") (sp := K00.sp_law) rfl (by decide) rfl ⟨rfl, by decide, by decide⟩ (fun w h Y => PySem.W.kIn_of Y) ?F K00.law_at
  case F =>
    intro w mg fa h KX G hmg
    refine' K00.all_mk KX G hmg ?a1 ?l1 ?c1 ?k1 ?a2 ?l2 ?c2 ?k2 ?a3 ?l3 ?c3 ?k3 ?a4 ?l4 ?c4 ?k4 ?a5 ?l5 ?c5 ?k5 ?a6 ?l6 ?c6 ?k6 ?a7 ?l7 ?c7 ?k7 ?a8 ?l8 ?c8 ?k8 ?a9 ?l9 ?c9 ?k9 ?a10 ?l10 ?c10 ?k10 ?a11 ?l11 ?c11 ?k11 ?g_PlinthError ?k_PlinthError ?x_PlinthError ?b_PlinthError ?t_PlinthError ?hd_PlinthError ?s_PlinthError ?i_PlinthError ?g_NotText ?k_NotText ?x_NotText ?b_NotText ?t_NotText ?hd_NotText ?s_NotText ?i_NotText ?ga_NotText ?gg_NotText ?gc_NotText ?gs_NotText ?gt_NotText ?gm_NotText ?g_NotNumeral ?k_NotNumeral ?x_NotNumeral ?b_NotNumeral ?t_NotNumeral ?hd_NotNumeral ?s_NotNumeral ?i_NotNumeral ?g_BadFuel ?k_BadFuel ?x_BadFuel ?b_BadFuel ?t_BadFuel ?hd_BadFuel ?s_BadFuel ?i_BadFuel ?sub_NotText_PlinthError ?kit_NotText_ValueError ?kit_NotText_NotNumeral ?kit_NotText_BadFuel ?c_NEWLINE ?c_FROM_AMPERSAND ?c_FROM_SPACE ?n_ValueError ?n_int ?n_isinstance ?n_len ?n_ord ?n_range ?n_repr ?n_str
    (case a1 => k_is)
    (case l1 => k_is)
    (case c1 => k_is)
    (case k1 => k_is)
    (case a2 => k_is)
    (case l2 => k_is)
    (case c2 => k_is)
    (case k2 => k_is)
    (case a3 => k_is)
    (case l3 => k_is)
    (case c3 => k_is)
    (case k3 => k_is)
    (case a4 => k_is)
    (case l4 => k_is)
    (case c4 => k_is)
    (case k4 => k_is)
    (case a5 => k_is)
    (case l5 => k_is)
    (case c5 => k_is)
    (case k5 => k_is)
    (case a6 => k_is)
    (case l6 => k_is)
    (case c6 => k_is)
    (case k6 => k_is)
    (case a7 => k_is)
    (case l7 => k_is)
    (case c7 => k_is)
    (case k7 => k_is)
    (case a8 => k_is)
    (case l8 => k_is)
    (case c8 => k_is)
    (case k8 => k_is)
    (case a9 => k_is)
    (case l9 => k_is)
    (case c9 => k_is)
    (case k9 => k_is)
    (case a10 => k_is)
    (case l10 => k_is)
    (case c10 => k_is)
    (case k10 => k_is)
    (case a11 => k_is)
    (case l11 => k_is)
    (case c11 => k_is)
    (case k11 => k_is)
    (case g_PlinthError => k_is)
    (case k_PlinthError => k_is)
    (case x_PlinthError => k_exc)
    (case b_PlinthError => k_is)
    (case t_PlinthError => k_is)
    (case hd_PlinthError => k_is)
    (case s_PlinthError => first | rfl | k_is)
    (case i_PlinthError => k_is)
    (case g_NotText => k_is)
    (case k_NotText => k_is)
    (case x_NotText => k_exc)
    (case b_NotText => k_is)
    (case t_NotText => k_is)
    (case hd_NotText => k_is)
    (case s_NotText => first | rfl | k_is)
    (case i_NotText => k_is)
    (case ga_NotText => k_is)
    (case gg_NotText => k_is)
    (case gc_NotText => k_is)
    (case gs_NotText => k_is)
    (case gt_NotText => k_is)
    (case gm_NotText => k_is)
    (case g_NotNumeral => k_is)
    (case k_NotNumeral => k_is)
    (case x_NotNumeral => k_exc)
    (case b_NotNumeral => k_is)
    (case t_NotNumeral => k_is)
    (case hd_NotNumeral => k_is)
    (case s_NotNumeral => first | rfl | k_is)
    (case i_NotNumeral => k_is)
    (case g_BadFuel => k_is)
    (case k_BadFuel => k_is)
    (case x_BadFuel => k_exc)
    (case b_BadFuel => k_is)
    (case t_BadFuel => k_is)
    (case hd_BadFuel => k_is)
    (case s_BadFuel => first | rfl | k_is)
    (case i_BadFuel => k_is)
    (case sub_NotText_PlinthError => first | rfl | k_is)
    (case kit_NotText_ValueError => kit_is)
    (case kit_NotText_NotNumeral => kit_is)
    (case kit_NotText_BadFuel => kit_is)
    (case c_NEWLINE => k_is)
    (case c_FROM_AMPERSAND => k_is)
    (case c_FROM_SPACE => k_is)
    (case n_ValueError => k_is)
    (case n_int => k_is)
    (case n_isinstance => k_is)
    (case n_len => k_is)
    (case n_ord => k_is)
    (case n_range => k_is)
    (case n_repr => k_is)
    (case n_str => k_is)


