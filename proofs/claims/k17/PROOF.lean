import PyProof.Rows.All
import Wide.All
import OpenK.AllK
import Wide.FinOn
import HandS.ForMost
import HandS.ForExc
import HandS.Evl
import HandS.ExcIs
import HandS.RaiseMore
import HandS.IsInst
import HandS.Replace
import HandS.Flow
import HandS.Walk
import KE.RegKIsAll
import KE.IntTextLaws
import PySem.Challenge.RW_plinth_k17_short_in_pieces
set_option Elab.async false
set_option linter.all false
set_option maxRecDepth 100000
set_option maxHeartbeats 4000000
/-! A layer of our own: defs that are promised only where no repr is running (guards), repr of data, the end of a law. -/
namespace Gd
open PySem PySem.Spec PyProof.Rows L2

/-- a def's promise, given only where no guard stands around -/
structure GOk (P : Program) (w : World) (K : PySem.W.Frag) (mg : Str → Option Value) (base : Heap) (CX : CXT) (k : Nat) (f : Addr) (fd : FuncData) (ps : List Str) (sp : Sp) : Prop where
  len : ∀ vs H Q E, sp vs H Q E → vs.length = ps.length
  go : ∀ (A : Around) (outer : List Env) (s : Shared) (H : Hp) (args : Args) (us : List Value) (vs : List V) (Q : VK) (E : XK),
    A.guards = some [] → Room k A → Env0 P w K mg base A outer s H → BindsTo s fd args (ps.zip us) → Vals vs us → sp vs H Q E →
      codeAny (model P w) A (.call (.ref f) args) (CR CX outer P w H s Q E) s

section
variable {P : Program} {w : World} {K : PySem.W.Frag} {mg : Str → Option Value} {base : Heap}
theorem gfun {CX : CXT} {x qual : Str} {st : Stmt} {f : Addr} {fd : FuncData} {N ps : List Str} {k : Nat} {sp : Sp}
    (F : Fun K x qual st f fd) (S : FnScope N ps (defScope st)) (len : ∀ vs H Q E, sp vs H Q E → vs.length = ps.length)
    (hb : ∀ (cdv : Value) (A : Around) (outer : List Env) (s : Shared) (H : Hp) (vs : List V) (Q : VK) (E : XK),
      A.guards = some [] → Room k (A.deeper (envOfC qual (defScope st) s.heap.objs.size f cdv)) → sp vs H Q E →
      ∃ t, PSs (cxOf CX P w K mg base N qual (defScope st) f cdv A outer s H E) (defBody st) t ∧ t { nx := fun _ H' => Q .non H', rt := Q } (start N vs) H) :
    GOk P w K mg base CX (k + 1) f fd ps sp := by
  obtain ⟨oc, od, kV, doc, pm, an, cdv, ct, osl, rfl, lk, hcd⟩ := F.ex
  constructor
  · exact len
  intro A outer s H args us vs Q E hg hr e0 hbd rv hsp
  have hl := len _ _ _ _ hsp
  have kp := fun b o e => (e0.bs b o e).1
  have KX : K.In s.heap := e0.mod.kin.keeps kp
  have lim : s.heap.NoLimit := e0.mod.nolimit.keeps kp
  refine codeAny_call_function hr.depth (KX _ _ lk) rfl S.co S.gen rfl (PySem.W.codeRec_of KX hcd) (hbd _ _ _ _ ?_)
  have hkind : ∀ y ∈ ps.zip us, (defScope st).names.lookup y.1 = some .local ∨ ((defScope st).names.lookup y.1 = some .cell ∧ ((cellsFrom (s.heap.objs.size + 1) (defScope st).names []).lookup y.1).isSome = true) := by
    rintro ⟨n, v⟩ hy
    cases S.par n (List.of_mem_zip hy).1 with
    | inl q => exact .inl q
    | inr q => exact .inr ⟨q, PySem.W.cellsFrom_some _ _ _ (.inl q)⟩
  refine wpAny_newFunctionEnv_cells S.kind hkind fun env he s1 x => ?_
  subst he
  obtain ⟨t, ht, hq⟩ := hb cdv A outer s H vs Q E hg (hr.deeper _) hsp
  refine ⟨lim.keeps x.toInCall.keep, codeAny_func (wpAny_mono (ht.run [] s1 (start N vs) H _ (inv_start S hr.hd e0 hl rv x) hq) (fun fl s' hs => ?_) fun e s' hs => hs)⟩
  cases fl with
  | ret u =>
    obtain ⟨v, σ', H', J, r2, q⟩ := hs
    exact ⟨v, H', J.os, J.bare, J.base, J.hok, r2, q⟩
  | next =>
    obtain ⟨σ', H', J, q⟩ := hs
    exact ⟨V.non, H', J.os, J.bare, J.base, J.hok, rfl, q⟩
  | brk => exact (let ⟨_, _, _, q⟩ := hs; False.elim q)
  | cont => exact (let ⟨_, _, _, q⟩ := hs; False.elim q)
end

/-! ### the call of such a def, from a body around which no guard stands -/
section
variable {X : Cx} {CX : CXT} {k : Nat} {f : Addr} {fd : FuncData} {ps : List Str} {sp : Sp} {E : XK} {x : Str} {p pos : Pos} {e : Expr} {es : List Expr} {t : TA}
theorem pe_callG (F : GOk X.prog X.w X.K X.mg X.base CX k f fd ps sp) (hgd : X.A.guards = some []) (hr : Room k X.A) (hg : Gl X x) (hm : X.mg x = some (.ref f)) (hk : PySem.W.keepIn X.K (.ref f) = true)
    (hb : Binds X.K fd ps []) (hx : Passes CX X E) (ha : PA X (e :: es) t) (hdb : (x == ("__debug__" : Str)) = false := by decide)
    (he : starEach (e :: es) X.env = (false, eval e X.env) :: starEach es X.env := by rfl) (hpl : (backTo pos (starEach es X.env)).any (·.1) = false := by rfl) :
    PE X (.Call (.Name x p) (e :: es) [] pos) (tCall sp [] E t) := by
  constructor
  intro pins s σ H Q I h
  refine wpAny_Call_Name_kw (ld_glob I hg hm ?_ hdb)
  refine PySem.W.callWith_K (h₀ := X.base) I.ok.mod.kin hk (thn (ha.run pos pins s σ H _ I h) fun us s1 hh => ?_) he hpl
  obtain ⟨vs, H1, I1, r, q⟩ := hh
  refine ⟨I1.kIn, ?_⟩
  rw [List.append_nil] at q
  have hl : us.length = ps.length := r.length.symm.trans (F.len _ _ _ _ q)
  have bd := hb s1 us I1.kIn (by rw [List.append_nil]; exact hl)
  rw [List.append_nil] at bd
  refine wpAny_call (codeAny_mono (F.go X.A X.stack s1 H1 ⟨us, []⟩ us vs Q E hgd hr I1.env0 bd r q) fun r' s' hq => ?_)
  cases r' with
  | error e => exact hx pins σ H1 s1 e s' I1 hq
  | ok fl =>
    cases fl with
    | ret u => exact I1.after hq
    | next => exact False.elim hq
    | brk => exact False.elim hq
    | cont => exact False.elim hq
end

/-! ### repr of data -/
def rRepr (K : PySem.W.Frag) : List V → Hp → VK → Prop := fun xs H Q => ∃ (v : V) (d : PyData), xs = [v] ∧ Dp K H v d ∧ d.showable = true ∧ d.hasDict = false ∧ d.depth ≤ 40 ∧ d.shown.length ≤ sizeLine ∧ Q (.str d.shown) H
section
variable {X : Cx}
theorem call_reprD (hgd : X.A.guards = some []) (hu : X.A.units + 64 < cLine) : CallR X (.builtin "repr") (rRepr X.K) := by
  intro pins s σ H xs us Q I r h
  obtain ⟨v, d, rfl, hd, hs, hnd, hdp, hz, q⟩ := h
  obtain ⟨u, rfl, ru⟩ := vals1 r
  obtain ⟨as, hr⟩ := Dp.reads I d v u hd ru
  cases hd with
  | lst h1 h2 =>
    cases ru
    exact repr_of_reads' hr hs (PyData.noDict_hsm hnd) hgd (by omega) (fun _ _ e => e) (fun h' u tk hk => ⟨.str _, H, I.kept (t' := tk) hk, ⟨_, rfl⟩, q⟩) hz
  | tup h1 h2 =>
    cases ru
    exact repr_of_reads' hr hs (PyData.noDict_hsm hnd) hgd (by omega) (fun _ _ e => e) (fun h' u tk hk => ⟨.str _, H, I.kept (t' := tk) hk, ⟨_, rfl⟩, q⟩) hz
  | int i =>
    obtain ⟨t, rfl⟩ := ru
    exact PySem.P.repr_of_int (of_decide_eq_true hs) ⟨.str _, H, I.tok _, ⟨_, rfl⟩, q⟩
  | non =>
    cases ru
    exact PySem.P.repr_of_none ⟨.str _, H, I.tok _, ⟨_, rfl⟩, q⟩
  | bl b =>
    cases ru
    refine PySem.P.repr_of_bool ⟨.str _, H, I.tok _, ⟨_, rfl⟩, ?_⟩
    have e : (PyData.bool b).shown = (if b then ("True" : Str) else "False") := by unfold PyData.shown; rfl
    rw [← e]
    exact q
  | str x =>
    obtain ⟨t, rfl⟩ := ru
    exact PySem.P.repr_of_str ⟨.str _, H, I.tok _, ⟨_, rfl⟩, q⟩ hz
end

/-! ### the end of a law whose def is so promised -/
section
variable {P : Program} {w : World} {K : PySem.W.Frag} {mg mb : Str → Option Value} {CX : CXT} {k : Nat} {fa a : Addr} {fd : FuncData} {x : Str} {sp : Sp} {s₁ : Shared} {vs : List Value} {ns : List Int}
/-- from an abstract heap H that tracks at most the script -/
theorem g_core (H : Hp) (KX : K.In s₁.heap) (hns : s₁.heap.Ns mainGlobals mg) (hb : s₁.heap.Ns builtinsNs mb) (hbb : ∀ x : Str, x ≠ "__name__" → mb x = bootBuiltins x) (hlim : s₁.heap.NoLimit) (hg : s₁.gens = #[])
    (ha : s₁.heap.get? a = some { cls := .type "list", data := .seq vs.toArray }) (hr : Room k callerA)
    (F : ∀ base : Heap, K.In base → base.Ns mainGlobals mg → GOk P w K mg base CX k fa fd [x] sp) (hbind : ∀ (s : Shared) (u : Value), BindsTo s fd ⟨[u], []⟩ [(x, u)])
    (hsp : sp [.ref a] H (fun v _ => v = .bl true) fun _ _ _ => False) (hCX : ∀ e s', CX [] H s₁ (fun _ _ _ => False) e s' → False)
    (hO : Only H) (hok : HOk P w H s₁.heap) (hA : ∀ b u, H b = some u → b = a ∧ K.lookup a = none) :
    codeAny (model P w) callerA (.call (.ref fa) ⟨[.ref a], []⟩) (fun r s' => r = .ok (.ret (.bool true)) ∧ PySem.OldK s₁.heap s'.heap ∧ s'.os = s₁.os ∧ AllBare s'.gens) s₁ := by
  have hid : ∀ {b : Addr} {o : Obj}, s₁.heap.get? b = some o → H b = none → (hidT s₁.heap H).get? b = some o := fun e n => hidT_get e n
  have un_d : ∀ {b : Addr} {o : Obj} {es : Array DictEntry} {ep : Nat}, s₁.heap.get? b = some o → o.data = .dict es ep → H b = none := by
    intro b o es ep e d
    cases q : H b with
    | none => rfl
    | some u =>
      rw [(hA b u q).1, ha] at e
      cases e
      exact nomatch d
  have ns_b : ∀ {b : Addr} {m : Str → Option Value}, s₁.heap.Ns b m → (hidT s₁.heap H).Ns b m := by
    rintro b m ⟨o, es, ep, e, d, r⟩
    exact ⟨o, es, ep, hid e (un_d e d), d, r⟩
  have k_b : K.In (hidT s₁.heap H) := by
    intro b o e
    refine hid (KX b o e) ?_
    cases q : H b with
    | none => rfl
    | some u =>
      obtain ⟨e1, e2⟩ := hA b u q
      rw [e1, e2] at e
      cases e
  have nl : (hidT s₁.heap H).NoLimit := let ⟨mc, h1, h2⟩ := hlim; ⟨mc, ns_b h1, h2⟩
  have e0 : Env0 P w K mg (hidT s₁.heap H) callerA [] s₁ H :=
    { frames := rfl, mod := ⟨k_b, ns_b hns, ⟨mb, ns_b hb, hbb⟩, nl⟩, bs := fun b o e => of_hidT e, bsz := Nat.le_of_eq (hidT_size _ _), funs := trivial,
      frf := fun b z => absurd (show b ∈ ([] : List Addr) from z) List.not_mem_nil, hok := hok, bare := .of_eq hg }
  refine codeAny_mono ((F _ k_b (ns_b hns)).go callerA [] s₁ H ⟨[.ref a], []⟩ [.ref a] [.ref a] _ _ rfl hr e0 (hbind s₁ (.ref a)) (.cons rfl .nil) hsp) fun r s' h => ?_
  cases r with
  | error e => exact (hCX e s' h).elim
  | ok fl =>
    cases fl with
    | next => exact False.elim h
    | brk => exact False.elim h
    | cont => exact False.elim h
    | ret u =>
      obtain ⟨v, H', os, bare, un, hok', r', q⟩ := h
      cases (show v = .bl true from q)
      cases (show u = Value.bool true from r')
      refine ⟨rfl, OldK.of_keep fun b o e => ?_, os, bare⟩
      cases q : H b with
      | none => exact un.keep b o e q (fun z => absurd (show b ∈ ([] : List Addr) from z) List.not_mem_nil) List.not_mem_nil
      | some u =>
        cases hO b with
        | inl z => exact nomatch q.symm.trans z
        | inr z =>
          obtain ⟨ob, xs, z⟩ := z
          obtain ⟨e1, _⟩ := hok b _ z
          cases e.symm.trans e1
          exact (hok' b _ (un.frzs b _ _ z)).1

theorem g_call (KX : K.In s₁.heap) (hns : s₁.heap.Ns mainGlobals mg) (hb : s₁.heap.Ns builtinsNs mb) (hbb : ∀ x : Str, x ≠ "__name__" → mb x = bootBuiltins x) (hlim : s₁.heap.NoLimit) (hg : s₁.gens = #[])
    (ha : s₁.heap.get? a = some { cls := .type "list", data := .seq vs.toArray }) (hi : IntsAre vs ns) (hl : ns.length ≤ sizeLine) (hr : Room k callerA)
    (F : ∀ base : Heap, K.In base → base.Ns mainGlobals mg → GOk P w K mg base CX k fa fd [x] sp) (hbind : ∀ (s : Shared) (u : Value), BindsTo s fd ⟨[u], []⟩ [(x, u)])
    (hsp : ∀ H : Hp, Only H → SqL K H a (ns.map V.int) → sp [.ref a] H (fun v _ => v = .bl true) fun _ _ _ => False)
    (hCX : ∀ H e s', CX [] H s₁ (fun _ _ _ => False) e s' → False) :
    codeAny (model P w) callerA (.call (.ref fa) ⟨[.ref a], []⟩) (fun r s' => r = .ok (.ret (.bool true)) ∧ PySem.OldK s₁.heap s'.heap ∧ s'.os = s₁.os ∧ AllBare s'.gens) s₁ := by
  have rv := vals_ints hi
  cases hk : K.lookup a with
  | some o =>
    cases ha.symm.trans (KX a o hk)
    have O : Only (fun _ => none : Hp) := fun _ => .inl rfl
    refine g_core (fun _ => none) KX hns hb hbb hlim hg ha hr F hbind (hsp _ O (.inr ?_)) (hCX _) O (fun b u z => nomatch (show (none : Option HO) = some u from z)) (fun b u z => nomatch (show (none : Option HO) = some u from z))
    exact ⟨_, vs.toArray, _, hk, rfl, rfl, rfl, by rw [List.size_toArray, hi.length]; exact hl, by simpa using rv⟩
  | none =>
    let sc : HO := .frz { cls := .type "list", data := .seq vs.toArray } (.lst (ns.map V.int))
    let H : Hp := fun b => if b = a then some sc else none
    have Ha : H a = some sc := if_pos rfl
    have Hb : ∀ b u, H b = some u → b = a ∧ u = sc := by
      intro b u z
      by_cases q : b = a
      · exact ⟨q, Option.some.inj (z.symm.trans (if_pos q))⟩
      · exact nomatch z.symm.trans (if_neg q)
    have O : Only H := by
      intro b
      by_cases q : b = a
      · exact .inr ⟨_, _, if_pos q⟩
      · exact .inl (if_neg q)
    refine g_core H KX hns hb hbb hlim hg ha hr F hbind (hsp H O (.inl (.inr ⟨_, Ha⟩))) (hCX H) O (fun b u z => ?_) (fun b u z => ⟨(Hb b u z).1, hk⟩)
    obtain ⟨rfl, rfl⟩ := Hb b u z
    exact ⟨ha, by rw [List.length_map]; exact hl, vs, _, rv, ha⟩
end

/-- the goal that k_head leaves of a law whose promise hangs on the written part alone -/
theorem g_walk {l : PySem.W.OpenLaw} {n k : Nat} {q : Program} {loose : List Str} {XP : (Str → Option Value) → Heap → Prop} {YP : World → Heap → Prop} {d : DefRec} {K : Params → PySem.W.Frag} {sp : PySem.W.Frag → Sp} {x : Str}
    (hn : l.most = some n) (hn2 : n ≤ sizeLine) (hdf : d.params.defaults = []) (hr : Room k callerA) (hY : ∀ (w : World) (h : Heap), YP w h → (K w.params).In h)
    (F : ∀ (w : World) (mg : Str → Option Value) (fa : Addr) (h : Heap), (K w.params).In h → h.Ns mainGlobals mg → mg d.name = some (.ref fa) →
      ∃ fd : FuncData, (∀ (s : Shared) (u : Value), BindsTo s fd ⟨[u], []⟩ [(x, u)]) ∧ ∀ base : Heap, (K w.params).In base → base.Ns mainGlobals mg → GOk l.prog w (K w.params) mg base CX0 k fa fd [x] (sp (K w.params)))
    (hsp : ∀ (K : PySem.W.Frag) (H : Hp) (a : Addr) (ns : List Int), ns.length ≤ n → Only H → SqL K H a (ns.map V.int) → sp K [.ref a] H (fun v _ => v = .bl true) fun _ _ _ => False) :
    PySem.W.WalkO q loose XP YP l.row.toRowW d [] (fun f vs => PySem.call f vs) := by
  refine Att.attach_call hn hdf ?_
  intro w s₀ s₁ mg mb fa o pm cd doc a vs ns G Y ho hd hcd hmg hobj hints hlen hg
  have KX := hY w _ Y
  obtain ⟨fd, hb, hF⟩ := F w mg fa _ KX G.T.g hmg
  exact g_call KX G.T.g G.T.b G.T.builtins G.T.nolimit hg hobj hints (Nat.le_trans hlen hn2) hr hF hb (fun H hO hS => hsp _ H a ns hlen hO hS) fun H e s' z => z
end Gd

set_option Elab.async false
set_option linter.all false
set_option maxRecDepth 100000
set_option maxHeartbeats 4000000
/-! More of our own: what evaluates to what, for chains, calls, texts; the draws of the laws. -/
namespace Gd
open PySem PySem.Spec PyProof.Rows L2 Evl
section
variable {K : PySem.W.Frag} {σ : L2.St} {H H' : Hp} {ta tb tc te : TE} {t u : TT} {x y z v : V} {r r' : R2}
theorem ev_chain {a b : Bool} {c : V} (ha : Ev ta σ H x) (hb : Ev tb σ H y) (hr : RV r x y H (.bl a)) (hc : a = true → Ev tc σ H c) (hr2 : a = true → RV r' y c H (.bl b)) :
    Ev (tChain r r' ta tb tc) σ H (.bl (a && b)) := fun H1 e Q q =>
  ha H1 e _ fun H2 e2 => hb H2 (e.trans e2) _ fun H3 e3 => hr H3 ((e.trans e2).trans e3) _ fun H4 e4 => ⟨a, rfl, by
    have e14 := (e2.trans e3).trans e4
    cases a with
    | true =>
      rw [if_pos rfl]
      exact hc rfl H4 (e.trans e14) _ fun H5 e5 => hr2 rfl H5 ((e.trans e14).trans e5) Q fun H6 e6 => q H6 ((e14.trans e5).trans e6)
    | false =>
      rw [if_neg Bool.false_ne_true]
      exact q H4 e14⟩
theorem rv_eqI {i j : Int} : RV rEq (.int i) (.int j) H (.bl (decide (i = j))) := by
  have h : RV rEq (.int i) (.int j) H (.bl (decide (V.int i = V.int j))) := rv_eq rfl
  have e : decide (V.int i = V.int j) = decide (i = j) := by
    by_cases h : i = j
    · rw [h, decide_eq_true rfl, decide_eq_true rfl]
    · rw [decide_eq_false h, decide_eq_false (fun q => h (V.int.inj q))]
  rw [← e]
  exact h
theorem rv_eqS {i j : Str} : RV rEq (.str i) (.str j) H (.bl (decide (i = j))) := by
  have h : RV rEq (.str i) (.str j) H (.bl (decide (V.str i = V.str j))) := rv_eq rfl
  have e : decide (V.str i = V.str j) = decide (i = j) := by
    by_cases h : i = j
    · rw [h, decide_eq_true rfl, decide_eq_true rfl]
    · rw [decide_eq_false h, decide_eq_false (fun q => h (V.str.inj q))]
  rw [← e]
  exact h
theorem rv_neS {i j : Str} : RV rNe (.str i) (.str j) H (.bl (!decide (i = j))) := by
  have h : RV rNe (.str i) (.str j) H (.bl (!decide (V.str i = V.str j))) := rv_ne rfl
  have e : decide (V.str i = V.str j) = decide (i = j) := by
    by_cases h : i = j
    · rw [h, decide_eq_true rfl, decide_eq_true rfl]
    · rw [decide_eq_false h, decide_eq_false (fun q => h (V.str.inj q))]
  rw [← e]
  exact h
theorem rv_neI {i j : Int} : RV rNe (.int i) (.int j) H (.bl (!decide (i = j))) := by
  have h : RV rNe (.int i) (.int j) H (.bl (!decide (V.int i = V.int j))) := rv_ne rfl
  have e : decide (V.int i = V.int j) = decide (i = j) := by
    by_cases h : i = j
    · rw [h, decide_eq_true rfl, decide_eq_true rfl]
    · rw [decide_eq_false h, decide_eq_false (fun q => h (V.int.inj q))]
  rw [← e]
  exact h
theorem rv_mod {i j : Int} (h : j ≠ 0) : RV (rI (fun _ j => j ≠ 0) fun i j => .int (i.fmod j)) (.int i) (.int j) H (.int (i.fmod j)) := rv_I h
theorem rv_fdiv {i j : Int} (h : j ≠ 0) (h2 : j.natAbs < 1073741824) : RV (rI CDivN fun i j => .int (i.fdiv j)) (.int i) (.int j) H (.int (i.fdiv j)) := rv_I ⟨h, h2⟩
theorem rv_mulR {i j : Int} (h : -(2 ^ 64) < j ∧ j < 2 ^ 64) : RV (rI CMul fun i j => .int (i * j)) (.int i) (.int j) H (.int (i * j)) := rv_I (.inr h)
theorem rv_mulL {i j : Int} (h : -(2 ^ 64) < i ∧ i < 2 ^ 64) : RV (rI CMul fun i j => .int (i * j)) (.int i) (.int j) H (.int (i * j)) := rv_I (.inl h)
theorem rv_pow {i j : Int} (h : 0 ≤ j ∧ j ≤ 1000000 ∧ i.natAbs < 2 ^ 64) : RV (rI CPow fun i j => .int (i ^ j.toNat)) (.int i) (.int j) H (.int (i ^ j.toNat)) := rv_I h
def rAddT : R2 := fun x y H Q => ∃ i j, x = .str i ∧ y = .str j ∧ i.length + j.length ≤ sizeLine ∧ Q (.str (i ++ j)) H
theorem rv_addS {i j : Str} (h : i.length + j.length ≤ 100000) : RV rAddT (.str i) (.str j) H (.str (i ++ j)) := fun H1 _ _ q => ⟨i, j, rfl, rfl, sz_of h, q H1 (Ex.refl H1)⟩
def rInt1 : List V → Hp → VK → Prop := fun xs H Q => (∃ i, xs = [.int i] ∧ Q (.int i) H) ∨ ∃ k, xs = [.bl k] ∧ Q (.int (if k then 1 else 0)) H
theorem rc_int {i : Int} : RC rInt1 [.int i] H (.int i) := fun H1 _ _ q => .inl ⟨i, rfl, q H1 (Ex.refl H1)⟩
theorem rc_intB {k : Bool} : RC rInt1 [.bl k] H (.int (if k then 1 else 0)) := fun H1 _ _ q => .inr ⟨k, rfl, q H1 (Ex.refl H1)⟩
def rOrd : List V → Hp → VK → Prop := fun xs H Q => ∃ x, xs = [.str x] ∧ x.length = 1 ∧ Q (.int (x.cps.getD 0 0 : Nat)) H
theorem rc_ord {c : Nat} : RC rOrd [.str ⟨#[c]⟩] H (.int (c : Int)) := fun H1 _ _ q => ⟨⟨#[c]⟩, rfl, rfl, q H1 (Ex.refl H1)⟩
def rLenT : List V → Hp → VK → Prop := fun xs H Q => ∃ x, xs = [.str x] ∧ x.length ≤ sizeLine ∧ Q (.int x.length) H
theorem rc_lenS {x : Str} (h : x.length ≤ 100000) : RC rLenT [.str x] H (.int x.length) := fun H1 _ _ q => ⟨x, rfl, sz_of h, q H1 (Ex.refl H1)⟩
theorem rc_repr {d : PyData} (hd : Dp K H v d) (hm : ∀ H1, Ex H H1 → Dp K H1 v d) (hs : d.showable = true) (hn : d.hasDict = false) (hp : d.depth ≤ 40) (hz : d.shown.length ≤ sizeLine) : RC (rRepr K) [v] H (.str d.shown) :=
  fun H1 e _ q => ⟨v, d, rfl, hm H1 e, hs, hn, hp, hz, q H1 (Ex.refl H1)⟩
theorem ev_sub {a : TE} {lo hi : TO} {i j : Option Int} {z : Str} (h : Ev a σ H (.str z)) (hl : EvO lo σ H i) (hh : EvO hi σ H j) (hz : z.length ≤ 100000) : Ev (tSl rSlS a lo hi) σ H (.str (cutS z i j)) := fun H1 e Q q =>
  h H1 e _ fun H2 e2 => hl H2 (e.trans e2) _ fun H3 e3 => hh H3 ((e.trans e2).trans e3) _ fun H4 e4 => ⟨z, rfl, sz_of hz, q H4 ((e2.trans e3).trans e4)⟩
end

/-! ### data of lists of ints -/
theorem dpAll_ints {K : PySem.W.Frag} {H : Hp} : ∀ ns : List Int, DpAll K H (ns.map V.int) (ns.map PyData.int)
  | [] => .nil
  | n :: r => .cons (.int n) (dpAll_ints r)
theorem dp_ints {K : PySem.W.Frag} {H : Hp} {a : Addr} {ns : List Int} (h : SqL K H a (ns.map V.int)) : Dp K H (.ref a) (.list (ns.map PyData.int)) := .lst h (dpAll_ints ns)
theorem showAll_ints : ∀ (ns : List Int), (∀ n ∈ ns, n.natAbs.log2 < 1920) → PyData.showableAll (ns.map PyData.int) = true
  | [], _ => by simp [PyData.showableAll]
  | n :: r, h => by
    rw [List.map_cons, PyData.showableAll, PyData.showable, decide_eq_true (h n List.mem_cons_self), showAll_ints r fun m hm => h m (List.mem_cons_of_mem _ hm)]
    rfl
theorem noDict_ints : ∀ ns : List Int, PyData.hasDictAll (ns.map PyData.int) = false
  | [] => by simp [PyData.hasDictAll]
  | n :: r => by
    rw [List.map_cons, PyData.hasDictAll, noDict_ints r, PyData.hasDict]
    rfl
theorem depthAll_ints : ∀ ns : List Int, PyData.depthAll (ns.map PyData.int) ≤ 1
  | [] => by simp [PyData.depthAll]
  | n :: r => by
    rw [List.map_cons, PyData.depthAll, PyData.depth]
    have := depthAll_ints r
    omega

/-! ### the script's cells -/
def cellN (ns : List Int) (k : Nat) : Int := ns.getD k 0

/-! ### comprehensions without a test: items mapped -/
section
variable {K : PySem.W.Frag} {σ : L2.St} {H H1 : Hp} {te tl : TE} {vs : List Nat} {j : Nat}
theorem take_snoc {α : Type} {l : List α} {i : Nat} {x : α} (h : l[i]? = some x) : l.take (i + 1) = l.take i ++ [x] := by
  rw [List.take_add_one, h]
  rfl
theorem lc_map {J : It} {G : Hp → Prop} {Y : Nat → Hp → V → Hp → Prop} {xs : List V} {D : Addr} {Qd : Hp → Prop} (w : Walk J xs.length G Y) (hY : ∀ i H x H', i < xs.length → Y i H x H' → H' = H ∧ xs[i]? = some x)
    (hz : xs.length ≤ 90000) (hw : ∀ x, wipe ((wipe σ vs).set j (some x)) vs = wipe σ vs) (f : V → V) (hG : ∀ H', Ex H1 H' → G H') (he : ∀ x ∈ xs, ∀ H', Ex H1 H' → Ev te ((wipe σ vs).set j (some x)) H' (f x)) (hD : H1 D = none)
    (k : ∀ H', Ex H1 H' → H' D = some (.lst (xs.map f)) → Qd H') :
    ∃ W : Nat → Nat → Hp → Prop, (∃ m, W 0 m (upd H1 D (.lst []))) ∧ ∀ i m H, W i m H →
      (J.stop i H ∧ Qd H) ∨ (J.go i H ∧ ∃ Nx : Hp → Prop, (∀ H', Nx H' → ∃ m', m' < m ∧ W (i + 1) m' H') ∧ ∀ x H', J.yld i H x H' → gName j x (wipe σ vs) H' fun σ2 H2 => wipe σ2 vs = wipe σ vs ∧ tYes σ2 H2 fun b H3 =>
        if b = true then te σ2 H3 fun y H4 => ∃ acc, H4 D = some (.lst acc) ∧ acc.length < sizeLine ∧ Nx (upd H4 D (.lst (acc ++ [y]))) else Nx H3) := by
  refine lc_it w (fun i H' => Ex H1 H' ∧ H' D = some (.lst ((xs.take i).map f))) ⟨Ex.new hD, upd_same⟩ (fun i H' _ p => hG H' p.1) ?_ (fun H' p => k H' p.1 (by rw [p.2, List.take_length]))
  intro i x H2 H3 hi p y
  obtain ⟨e, hx⟩ := hY i H2 x H3 hi y
  subst e
  obtain ⟨p1, p2⟩ := p
  refine ⟨hw x, ?_⟩
  dsimp only [tYes]
  rw [if_pos rfl]
  refine he x (List.mem_of_getElem? hx) H3 p1 H3 (Ex.refl H3) _ fun H4 e4 => ⟨(xs.take i).map f, e4 D _ p2, sz_lt (by rw [List.length_map, List.length_take]; omega), Ex.mut (p1.trans e4) hD, ?_⟩
  rw [upd_same, take_snoc hx, List.map_append]
  rfl
theorem el_mapL {a : Addr} {xs : List V} (f : V → V) (h : Ev tl σ H (.ref a)) (hx : SqL K H a xs) (hz : xs.length ≤ 90000) (hw : ∀ x, wipe ((wipe σ vs).set j (some x)) vs = wipe σ vs)
    (he : ∀ x ∈ xs, ∀ H1, Ex H H1 → Ev te ((wipe σ vs).set j (some x)) H1 (f x)) : EvL (tLc (iList K tl) (gName j) tYes te vs) σ H (xs.map f) := fun H0 e Q q =>
  h H0 e _ fun H1 e1 => ⟨a, rfl, ⟨xs, ex_l (e.trans e1) hx⟩, fun D hD => lc_map walk_list (fun _ _ _ _ _ y => y) hz hw f (fun H' e' => ex_l ((e.trans e1).trans e') hx) (fun x m H' e' => he x m H' ((e.trans e1).trans e')) hD
    (fun H' e' hd => q D H' (fresh_back e1 hD) (e1.trans e') hd)⟩
theorem el_mapNL {xs : List V} (f : V → V) (h : EvL tl σ H xs) (hz : xs.length ≤ 90000) (hw : ∀ x, wipe ((wipe σ vs).set j (some x)) vs = wipe σ vs)
    (he : ∀ x ∈ xs, ∀ H1, Ex H H1 → Ev te ((wipe σ vs).set j (some x)) H1 (f x)) : EvL (tLc (iList K tl) (gName j) tYes te vs) σ H (xs.map f) := fun H0 e Q q =>
  h H0 e _ fun a H1 _ e1 ha => ⟨a, rfl, ⟨xs, sq_of ha⟩, fun D hD => lc_map walk_list (fun _ _ _ _ _ y => y) hz hw f (fun H' e' => sq_of (e' a _ ha)) (fun x m H' e' => he x m H' ((e.trans e1).trans e')) hD
    (fun H' e' hd => q D H' (fresh_back e1 hD) (e1.trans e') hd)⟩
def sgns (z : Str) : List V := z.cps.toList.map fun c => V.str ⟨#[c]⟩
theorem sgns_at {z : Str} {i c : Nat} (h : z.cps[i]? = some c) : (sgns z)[i]? = some (.str ⟨#[c]⟩) := by
  unfold sgns
  rw [List.getElem?_map, Array.getElem?_toList, h]
  rfl
theorem sgns_len (z : Str) : (sgns z).length = z.cps.size := by
  unfold sgns
  rw [List.length_map, Array.length_toList]
theorem walk_signs (z : Str) : Walk (Its z) (sgns z).length (fun _ => True) (YAt (sgns z)) := by
  rw [sgns_len]
  exact walk_str.mono (fun _ h => h) fun i H x H' _ _ y => by
    obtain ⟨e, c, hc, rfl⟩ := y
    exact ⟨e, sgns_at hc⟩
theorem el_mapS {z : Str} (f : V → V) (h : Ev tl σ H (.str z)) (hz : z.cps.size ≤ 90000) (hw : ∀ x, wipe ((wipe σ vs).set j (some x)) vs = wipe σ vs)
    (he : ∀ c ∈ z.cps.toList, ∀ H1, Ex H H1 → Ev te ((wipe σ vs).set j (some (.str ⟨#[c]⟩))) H1 (f (.str ⟨#[c]⟩))) : EvL (tLc (iStr tl) (gName j) tYes te vs) σ H ((sgns z).map f) := fun H0 e Q q =>
  h H0 e _ fun H1 e1 => ⟨z, rfl, fun D hD => lc_map (walk_signs z) (fun _ _ _ _ _ y => y) (by rw [sgns_len]; exact hz) hw f (fun _ _ => trivial) (fun x m H' e' => by
    obtain ⟨c, hc, rfl⟩ := List.mem_map.mp m
    exact he c hc H' ((e.trans e1).trans e')) hD (fun H' e' hd => q D H' (fresh_back e1 hD) (e1.trans e') hd)⟩
end

/-! ### join, repr, str(..) -/
section
variable {K : PySem.W.Frag} {σ : L2.St} {H H1 : Hp} {te tl to : TE}
def rJoinT (K : PySem.W.Frag) : V → List V → Hp → VK → Prop := fun x xs H Q => ∃ a p, ∃ ys : List Str, x = .str a ∧ xs = [.ref p] ∧ (SqL K H p (ys.map V.str) ∨ SqT K H p (ys.map V.str)) ∧
      (ys.map (·.length)).sum + ys.length * a.length ≤ 16777216 ∧ Q (.str (Txt.join a ys)) H
theorem ev_joinL {a : Str} {ys : List Str} (ho : Ev to σ H (.str a)) (h : EvL te σ H (ys.map V.str)) (hz : (ys.map (·.length)).sum + ys.length * a.length ≤ 16777216) : Ev (tM1 (rJoinT K) to te) σ H (.str (Txt.join a ys)) := fun H0 e Q q =>
  ho H0 e _ fun H1 e1 => ⟨⟨a, rfl⟩, h H1 (e.trans e1) _ fun p H2 _ e2 hp => ⟨a, p, ys, rfl, rfl, .inl (sq_of hp), hz, q H2 (e1.trans e2)⟩⟩
theorem joinE (ys : List Str) : (Txt.join "" ys).cps.toList = (ys.map fun y => y.cps.toList).flatten := by
  have h : ∀ l : List (List Nat), TL.joinL [] l = l.flatten := by
    intro l
    induction l with
    | nil => rfl
    | cons p r ih =>
      cases r with
      | nil => simp [TL.joinL]
      | cons q r => rw [TL.joinL, ih]; rfl
  rw [TL.join_eq]
  show TL.tl _ = _
  rw [TL.tl_join]
  exact h _
theorem show_le {ns : List Int} (hl : ns.length ≤ 1000) (hb : ∀ n ∈ ns, n.natAbs < 10 ^ 100) : (PyData.list (ns.map PyData.int)).shown.length ≤ sizeLine := by
  have hs : PyData.leavesShort 101 (.list (ns.map PyData.int)) = true := by
    unfold PyData.leavesShort
    clear hl
    induction ns with
    | nil => simp [PyData.leavesShortAll]
    | cons n r ih =>
      rw [List.map_cons, PyData.leavesShortAll, ih fun m hm => hb m (List.mem_cons_of_mem _ hm), Bool.and_true, PyData.leavesShort]
      refine decide_eq_true ?_
      unfold PyData.shown
      have h := int_text_length_le10 (k := 100) (by decide) (hb n List.mem_cons_self)
      have e : (Str.ofString (toString n)).length = (toString n).length := PySem.ofString_length _
      show (Str.ofString (toString n)).length ≤ 101
      rw [e]
      exact h
  have hk := PyData.shown_le_bulk 101 (by decide) _ hs
  have hb2 : (PyData.list (ns.map PyData.int)).bulk = ns.length := by
    unfold PyData.bulk
    clear hs hk hl hb
    induction ns with
    | nil => simp [PyData.bulkAll]
    | cons n r ih =>
      rw [List.map_cons, PyData.bulkAll, PyData.bulk, ih, List.length_cons]
      omega
  rw [hb2] at hk
  rw [sizeLine_eq]
  omega
set_option exponentiation.threshold 3000 in
theorem pow_small : 10 ^ 100 ≤ 2 ^ 1920 := by decide +kernel
set_option exponentiation.threshold 3000 in
theorem log_lt {n : Int} (h : n.natAbs < 10 ^ 100) : n.natAbs.log2 < 1920 := by
  by_cases h0 : n.natAbs = 0
  · rw [h0]; decide
  · exact (Nat.log2_lt h0).mpr (Nat.lt_of_lt_of_le h pow_small)
theorem ev_reprI {a : Addr} {ns : List Int} (h : Ev te σ H (.ref a)) (hx : SqL K H a (ns.map V.int)) (hl : ns.length ≤ 1000) (hb : ∀ n ∈ ns, n.natAbs < 10 ^ 100) :
    Ev (tCB (rRepr K) (tCons te tNil)) σ H (.str (PyData.list (ns.map PyData.int)).shown) :=
  ev_cb (ea_cons h ea_nil) fun H1 e _ q => ⟨.ref a, .list (ns.map PyData.int), rfl, dp_ints (ex_l e hx), by
    rw [PyData.showable]
    exact showAll_ints ns fun n hn => log_lt (hb n hn), by
    rw [PyData.hasDict]
    exact noDict_ints ns, by
    rw [PyData.depth]
    have := depthAll_ints ns
    omega, show_le hl hb, q H1 (Ex.refl H1)⟩
end

/-! ### what is known behind a statement -/
theorem q_mid {t u : TS} {D : Ends} {σ : L2.St} {H : Hp} (M : L2.St → Hp → Prop) (mono : ∀ (N N' : L2.St → Hp → Prop), (∀ σ H, N σ H → N' σ H) → t { D with nx := N } σ H → t { D with nx := N' } σ H)
    (h : t { D with nx := M } σ H) (k : ∀ σ' H', M σ' H' → u D σ' H') : tSeq t u D σ H := mono M (u D) k h

/-! ### isinstance -/
section
variable {K : PySem.W.Frag} {H : Hp}
theorem rc_isStr {x : Str} : RC (rIsi K) [.str x, .ty "str"] H (.bl true) := fun H1 _ _ q => ⟨_, _, _, _, true, rfl, .ty "str", .base (.str x), kit_ty (by decide +kernel), q H1 (Ex.refl H1)⟩
theorem rc_isInt {i : Int} : RC (rIsi K) [.int i, .ty "int"] H (.bl true) := fun H1 _ _ q => ⟨_, _, _, _, true, rfl, .ty "int", .base (.int i), kit_ty (by decide +kernel), q H1 (Ex.refl H1)⟩
theorem rc_isIntB {i : Int} : RC (rIsi K) [.int i, .ty "bool"] H (.bl false) := fun H1 _ _ q => ⟨_, _, _, _, false, rfl, .ty "bool", .base (.int i), kit_ty (by decide +kernel), q H1 (Ex.refl H1)⟩
theorem rc_isNonS : RC (rIsi K) [.non, .ty "str"] H (.bl false) := fun H1 _ _ q => ⟨_, _, _, _, false, rfl, .ty "str", .base .non, kit_ty (by decide +kernel), q H1 (Ex.refl H1)⟩
/-- isinstance of the error that a suite holds: its class is asked in the reading -/
def rIsX (K : PySem.W.Frag) (D a : Addr) (cls : Value) (d : Option Addr) : List V → Hp → VK → Prop := fun xs H Q => cls = .ref D ∧ d = none ∧ rIsE K D a xs H Q
theorem call_isX {X : Cx} {a D : Addr} {oe : Obj} {pn : List (Addr × Obj)} {cls : Value} {d : Option Addr} (C : ExcC X.K D) (hz : Zc cls d oe) (hf : ∃ vs, oe.data = .fields vs) : CallR (X.suite a ((a, oe) :: pn)) (.builtin "isinstance") (rIsX X.K D a cls d) := by
  intro pins s σ H xs us Q I r h
  obtain ⟨rfl, rfl, h⟩ := h
  exact call_isE C hz hf pins s σ H xs us Q I r h
theorem rc_isX {D a : Addr} {c : V} {cv : Value} {b : Bool} (hc : ∀ u, RelV c u → u = cv) (hk : PySem.W.kitOne K (.ref D) cv = some b) : RC (rIsX K D a (.ref D) none) [.ref a, c] H (.bl b) := fun H1 _ _ q => ⟨rfl, rfl, c, cv, b, rfl, hc, hk, q H1 (Ex.refl H1)⟩
end

/-! ### the draws of the laws: a cell's values -/
def lvMix (cell size : Int) (k : Nat) : Int := ((((cell.fmod 2147483647) * 48271 + (k : Int) * 69621 + 7).fmod 2147483647 * 16807).fmod 2147483647).fmod size
def lvStep (cell size : Int) (st : Int × List Int) (k : Nat) : Int × List Int :=
  if st.1 ≥ 10 ^ 12 then (st.1.fdiv size, st.2 ++ [st.1.fmod size]) else (st.1, st.2 ++ [lvMix cell size k])
def lvGo (cell size : Int) (n : Nat) : Int × List Int := (List.range n).foldl (lvStep cell size) (cell, [])
theorem lvGo_succ (cell size : Int) (n : Nat) : lvGo cell size (n + 1) = lvStep cell size (lvGo cell size n) n := by
  unfold lvGo
  rw [List.range_succ, List.foldl_append]
  rfl
/-- what _law_values gives -/
def lvals (cell : Int) (n : Nat) (size : Int) : List Int := (lvGo cell size n).2
theorem lvStep_len (cell size : Int) (st : Int × List Int) (k : Nat) : (lvStep cell size st k).2.length = st.2.length + 1 := by
  unfold lvStep
  split <;> simp
theorem lvals_len (cell : Int) (n : Nat) (size : Int) : (lvals cell n size).length = n := by
  unfold lvals
  induction n with
  | zero => rfl
  | succ n ih => rw [lvGo_succ, lvStep_len, ih]
theorem lvals_in {cell size : Int} (h : 0 < size) (n : Nat) : ∀ v ∈ lvals cell n size, 0 ≤ v ∧ v < size := by
  unfold lvals
  induction n with
  | zero => intro v hv; exact absurd hv List.not_mem_nil
  | succ n ih =>
    intro v hv
    rw [lvGo_succ] at hv
    unfold lvStep lvMix at hv
    have key : ∀ x : Int, 0 ≤ x.fmod size ∧ x.fmod size < size := fun x => ⟨Int.fmod_nonneg_of_pos x h, Int.fmod_lt_of_pos x h⟩
    split at hv
    · rcases List.mem_append.mp hv with q | q
      · exact ih v q
      · rw [List.mem_singleton.mp q]; exact key _
    · rcases List.mem_append.mp hv with q | q
      · exact ih v q
      · rw [List.mem_singleton.mp q]; exact key _

/-! ### texts and their codes -/
theorem map_at {α β : Type} {f : α → β} {l : List α} {i : Nat} {x : β} (h : (l.map f)[i]? = some x) : ∃ c, l[i]? = some c ∧ x = f c := by
  rw [List.getElem?_map] at h
  cases e : l[i]? with
  | none => rw [e] at h; cases h
  | some c => rw [e] at h; exact ⟨c, rfl, (Option.some.inj h).symm⟩
theorem sgns_map (z : Str) (f : V → V) : (sgns z).map f = z.cps.toList.map fun c => f (.str ⟨#[c]⟩) := by
  unfold sgns
  rw [List.map_map]
  rfl
theorem app_toList (x y : Str) : (x ++ y).cps.toList = x.cps.toList ++ y.cps.toList := TL.tl_append x y
theorem len_size (x : Str) : x.length = x.cps.toList.length := by simp [Str.length]
theorem str_ext {x y : Str} (h : x.cps.toList = y.cps.toList) : x = y := by
  cases x; cases y
  congr
  exact Array.toList_inj.mp h
end Gd

set_option Elab.async false
set_option linter.all false
set_option maxRecDepth 100000
set_option maxHeartbeats 4000000
/-! Of our own: draws that are popped off a list; lists of ints compared; digits. -/
namespace Gd
open PySem PySem.Spec PyProof.Rows L2 Evl
/-- all but p is kept -/
def But (p : Addr) (H H' : Hp) : Prop := ∀ b o, b ≠ p → H b = some o → H' b = some o
theorem But.refl {p : Addr} {H : Hp} : But p H H := fun _ _ _ h => h
theorem But.trans {p : Addr} {H H1 H2 : Hp} (a : But p H H1) (b : But p H1 H2) : But p H H2 := fun c o n h => b c o n (a c o n h)
theorem ex_but {p : Addr} {H H' : Hp} (e : Ex H H') : But p H H' := fun b o _ h => e b o h
theorem But.upd {p : Addr} {H : Hp} {o : HO} : But p H (upd H p o) := fun b u n h => by rw [upd_ne n]; exact h
theorem But.seq {K : PySem.W.Frag} {p a : Addr} {H H' : Hp} {xs : List V} (b : But p H H') (n : a ≠ p) (h : SqL K H a xs) : SqL K H' a xs := by
  rcases h with (h | ⟨o, h⟩) | h
  · exact .inl (.inl (b _ _ n h))
  · exact .inl (.inr ⟨o, b _ _ n h⟩)
  · exact .inr h
/-- what was free is free still, seen backwards -/
theorem But.free {p a : Addr} {H H' : Hp} {o : HO} (b : But p H H') (hp : H' p = some o) (h : H' a = none) : a ≠ p ∧ H a = none := by
  have n : a ≠ p := fun e => by rw [e, hp] at h; cases h
  refine ⟨n, ?_⟩
  cases e : H a with
  | none => rfl
  | some u => rw [b a u n e] at h; cases h
def Small (ds : List Int) : Prop := (∀ d ∈ ds, 0 ≤ d ∧ d < 1000) ∧ ds.length ≤ 20000
theorem Small.nil : Small [] := ⟨fun _ h => absurd h List.not_mem_nil, Nat.zero_le _⟩
theorem Small.app {ds es : List Int} (h1 : ∀ d ∈ ds, 0 ≤ d ∧ d < 1000) (h2 : ∀ d ∈ es, 0 ≤ d ∧ d < 1000) : ∀ d ∈ ds ++ es, 0 ≤ d ∧ d < 1000 := fun d hd => (List.mem_append.mp hd).elim (h1 d) (h2 d)
theorem Small.one {ds : List Int} {x : Int} (h1 : ∀ d ∈ ds, 0 ≤ d ∧ d < 1000) (h2 : 0 ≤ x ∧ x < 1000) : ∀ d ∈ ds ++ [x], 0 ≤ d ∧ d < 1000 := Small.app h1 fun d hd => by rw [List.mem_singleton.mp hd]; exact h2
def Drw (p : Addr) (H : Hp) : Prop := ∃ ds : List Int, H p = some (.lst (ds.map V.int)) ∧ Small ds
theorem Drw.ex {p : Addr} {H H' : Hp} (d : Drw p H) (e : Ex H H') : Drw p H' := let ⟨ds, h, s⟩ := d; ⟨ds, e _ _ h, s⟩
theorem fmod_in (x : Int) {m : Int} (h : 0 < m) : 0 ≤ x.fmod m ∧ x.fmod m < m := ⟨Int.fmod_nonneg_of_pos x h, Int.fmod_lt_of_pos x h⟩

/-! ### lists of ints compared -/
section
variable {K : PySem.W.Frag} {H : Hp} {σ : L2.St} {ta tb te : TE}
theorem can_ints : ∀ ns : List Int, PyData.canLayAll0 (ns.map PyData.int) = true
  | [] => by simp [PyData.canLayAll0]
  | n :: r => by
    rw [List.map_cons, PyData.canLayAll0, can_ints r, PyData.canLay0]
    rfl
theorem shaped_ints (ns : List Int) : SeqAt.shaped (.list (ns.map PyData.int)) = true := by
  unfold SeqAt.shaped
  rw [PyData.canLay0, can_ints, PyData.depth]
  have := depthAll_ints ns
  rw [Bool.true_and]
  exact decide_eq_true (by omega)
theorem eqv_ints : ∀ ns ms : List Int, PyData.eqvAll (ns.map PyData.int) (ms.map PyData.int) = decide (ns = ms)
  | [], [] => by simp [PyData.eqvAll]
  | [], m :: r => by simp [PyData.eqvAll]
  | n :: r, [] => by simp [PyData.eqvAll]
  | n :: r, m :: q => by
    rw [List.map_cons, List.map_cons, PyData.eqvAll, eqv_ints r q, PyData.eqv]
    by_cases h : n = m
    · subst h
      by_cases h2 : r = q
      · subst h2; simp
      · simp [h2]
    · simp [h]
theorem rv_eqL {a b : Addr} {ns ms : List Int} (ha : SqL K H a (ns.map V.int)) (hb : SqL K H b (ms.map V.int)) : RV (rEqD K) (.ref a) (.ref b) H (.bl (decide (ns = ms))) := fun H1 e Q q =>
  ⟨_, _, dp_ints (ex_l e ha), dp_ints (ex_l e hb), shaped_ints ns, shaped_ints ms, by rw [PyData.eqv, eqv_ints]; exact q H1 (Ex.refl H1)⟩
theorem rv_neL {a b : Addr} {ns ms : List Int} (ha : SqL K H a (ns.map V.int)) (hb : SqL K H b (ms.map V.int)) : RV (rNeD K) (.ref a) (.ref b) H (.bl (!decide (ns = ms))) := fun H1 e Q q =>
  ⟨_, _, dp_ints (ex_l e ha), dp_ints (ex_l e hb), shaped_ints ns, shaped_ints ms, by rw [PyData.eqv, eqv_ints]; exact q H1 (Ex.refl H1)⟩
def optV : Option Int → V
  | none => .non
  | some v => .int v
/-- value or 0 -/
theorem ev_or0 {o : Option Int} (h : Ev te σ H (optV o)) : Ev (tOrT K te (tC (.int 0))) σ H (.int (o.getD 0)) := fun H1 e Q q =>
  h H1 e _ fun H2 e2 => by
    cases o with
    | none => exact ⟨false, rfl, by rw [if_neg Bool.false_ne_true]; exact q H2 e2⟩
    | some v =>
      refine ⟨v != 0, rfl, ?_⟩
      by_cases hv : v = 0
      · subst hv
        exact q H2 e2
      · rw [if_pos (by simpa using hv)]
        exact q H2 e2
def rNotNn : R2 := fun x y H Q => y = .non ∧ Q (.bl (!decide (x = .non))) H
theorem rv_notN {o : Option Int} : RV rNotNn (optV o) .non H (.bl o.isSome) := fun H1 _ _ q => ⟨rfl, by
  have e : (!decide (optV o = .non)) = o.isSome := by
    cases o with
    | none => rfl
    | some v => exact by simp [optV]
  rw [e]
  exact q H1 (Ex.refl H1)⟩
theorem ev_listN {xs : List V} {a : Addr} (h : Ev te σ H (.ref a)) (hx : SqL K H a xs) : EvL (tCB (rListS K) (tCons te tNil)) σ H xs := el_list h hx
/-- the truth of a list -/
theorem et_truL {a : Addr} {xs : List V} (h : Ev te σ H (.ref a)) (hx : SqL K H a xs) : EvT (fun σ H Q => te σ H fun x H' => ∃ k, TruV K x H' k ∧ Q k H') σ H (!xs.isEmpty) := fun H1 e Q q =>
  h H1 e _ fun H2 e2 => ⟨!xs.isEmpty, .inl ⟨xs, ex_l (e.trans e2) hx, rfl⟩, q H2 e2⟩
end

/-! ### digits read -/
def isDg (c : Int) : Bool := decide (48 ≤ c) && decide (c ≤ 57)
def rdStep (st : List Int × Option Int) (c : Int) : List Int × Option Int :=
  if isDg c = true then (st.1, some (10 * st.2.getD 0 + c - 48)) else match st.2 with
    | some v => (st.1 ++ [v], none)
    | none => st
def rdFin (st : List Int × Option Int) : List Int := match st.2 with
  | some v => st.1 ++ [v]
  | none => st.1
def nn (c : Int) : Bool := decide (0 ≤ c)
def rdGo (ns : List Int) : List Int × Option Int := ns.foldl rdStep ([], none)
def rd (ns : List Int) : List Int := rdFin (rdGo (ns.takeWhile nn))
theorem at_sh {xs : List Nat} {c o n : Int} (h0 : 0 ≤ c - o) (hn : c - o < n) (ho : 0 ≤ o) (tab : ∀ k < n.toNat, xs[k]? = some (k + o.toNat)) : atI xs (c - o) = some c.toNat := by
  have e : c - o = (((c - o).toNat : Nat) : Int) := by omega
  rw [e]
  refine atI_nat ?_
  rw [tab _ (by omega)]
  congr 1
  omega
theorem takeWhile_pos {α : Type} {f : α → Bool} {l : List α} (h : l.takeWhile f = l) : ∀ z ∈ l, f z = true := by
  have e : (l.takeWhile f).all f = true := List.all_takeWhile
  rw [h] at e
  exact List.all_eq_true.mp e
theorem tw_stop {l : List Int} {i : Nat} {c : Int} (h : l[i]? = some c) (hc : nn c = false) (ht : (l.take i).takeWhile nn = l.take i) : l.takeWhile nn = l.take i := by
  have hi := (List.getElem?_eq_some_iff.mp h).1
  have e : l = l.take i ++ c :: l.drop (i + 1) := by
    have q := List.take_append_drop i l
    rw [List.drop_eq_getElem_cons hi] at q
    have hg : l[i] = c := by rw [List.getElem?_eq_getElem hi] at h; exact Option.some.inj h
    rw [hg] at q
    exact q.symm
  have q := congrArg (List.takeWhile nn) e
  rw [List.takeWhile_append_of_pos (fun z hz => takeWhile_pos ht z hz), List.takeWhile_cons, hc] at q
  simpa using q
theorem tw_len (l : List Int) : (l.takeWhile nn).length ≤ l.length := (List.takeWhile_sublist _).length_le
theorem foldl_snoc {α β : Type} {f : β → α → β} {b : β} {l : List α} {i : Nat} {x : α} (h : l[i]? = some x) : (l.take (i + 1)).foldl f b = f ((l.take i).foldl f b) x := by
  rw [take_snoc h, List.foldl_append]
  rfl
theorem rdGo_snoc {l : List Int} {i : Nat} {x : Int} (h : l[i]? = some x) : rdGo (l.take (i + 1)) = rdStep (rdGo (l.take i)) x := foldl_snoc h
theorem rdGo_len : ∀ (l : List Int), (rdGo l).1.length ≤ l.length := by
  intro l
  have key : ∀ (l : List Int) (st : List Int × Option Int), (l.foldl rdStep st).1.length ≤ st.1.length + l.length := by
    intro l
    induction l with
    | nil => intro st; simp
    | cons c r ih =>
      intro st
      have h1 := ih (rdStep st c)
      have h2 : (rdStep st c).1.length ≤ st.1.length + 1 := by
        unfold rdStep
        split
        · simp
        · split <;> simp
      rw [List.foldl_cons, List.length_cons]
      omega
  have := key l ([], none)
  unfold rdGo
  simpa using this
end Gd
namespace Gd
open PySem PySem.Spec PyProof.Rows L2 Evl
section
variable {K : PySem.W.Frag} {H : Hp} {σ : L2.St} {ta tb te : TE} {D : Ends} {tz : TS}
theorem rc_isList {p : Addr} {xs : List V} (h : H p = some (.lst xs)) : RC (rIsi K) [.ref p, .ty "list"] H (.bl true) := fun H1 e _ q => ⟨_, _, _, _, true, rfl, .ty "list", .base (.lst (e _ _ h)), kit_ty (by decide +kernel), q H1 (Ex.refl H1)⟩
/-- xs.extend([..]) -/
theorem s_ext {l : Addr} {xs ys : List V} (hl : H l = some (.lst xs)) (ha : Ev ta σ H (.ref l)) (h : EvL te σ H ys) (hz : xs.length + ys.length ≤ 100000) (k : ∀ H1, Ex H H1 → D.nx σ (upd H1 l (.lst (xs ++ ys)))) :
    tDrop (tBM K "list" rExtend ta (tCons te tNil)) D σ H := ha H (Ex.refl H) _ fun H1 e1 =>
  ⟨Or.inl ⟨rfl, xs, sq_of (e1 l _ hl)⟩, h H1 e1 _ fun p H2 hp e2 h2 => ⟨l, p, xs, ys, rfl, rfl, e2 l _ (e1 l _ hl), h2, sz_of hz, k H2 (e1.trans e2)⟩⟩
theorem q_ext {l : Addr} {xs ys : List V} (hl : H l = some (.lst xs)) (ha : Ev ta σ H (.ref l)) (h : EvL te σ H ys) (hz : xs.length + ys.length ≤ 100000) (k : ∀ H1, Ex H H1 → tz D σ (upd H1 l (.lst (xs ++ ys)))) :
    tSeq (tDrop (tBM K "list" rExtend ta (tCons te tNil))) tz D σ H := s_ext (D := { D with nx := tz D }) hl ha h hz k
/-- xs.reverse() -/
theorem q_rev {l : Addr} {xs : List V} (hl : H l = some (.lst xs)) (ha : Ev ta σ H (.ref l)) (k : ∀ H1, Ex H H1 → tz D σ (upd H1 l (.lst xs.reverse))) : tSeq (tDrop (tBM0 K "list" rReverse ta)) tz D σ H :=
  ha H (Ex.refl H) _ fun H1 e1 => ⟨Or.inl ⟨rfl, xs, sq_of (e1 l _ hl)⟩, l, xs, rfl, rfl, e1 l _ hl, k H1 e1⟩
/-- a + b, both lists -/
theorem el_cat {a : Addr} {xs ys : List V} (ha : Ev ta σ H (.ref a)) (hx : H a = some (.lst xs)) (hb : EvL tb σ H ys) (hz : xs.length + ys.length ≤ 100000) : EvL (tOp rCat ta tb) σ H (xs ++ ys) := fun H1 e Q q =>
  ha H1 e _ fun H2 e2 => hb H2 (e.trans e2) _ fun b H3 _ e3 h3 => ⟨a, b, xs, ys, rfl, rfl, e3 _ _ (e2 _ _ (e _ _ hx)), h3, sz_of hz, fun p hp => q p _ (fresh_back (e2.trans e3) hp) ((e2.trans e3).trans (Ex.new hp)) upd_same⟩
def rIntS : List V → Hp → VK → Prop := fun xs H Q => ∃ a n, xs = [.str a] ∧ PySem.intText? a = some n ∧ a.length ≤ 640 ∧ Q (.int n) H
theorem rc_intS {z : Str} {n : Int} (h : PySem.intText? z = some n) (hz : z.length ≤ 640) : RC rIntS [.str z] H (.int n) := fun H1 _ _ q => ⟨z, n, rfl, h, hz, q H1 (Ex.refl H1)⟩
theorem but_mut {p q : Addr} {H H' : Hp} {o : HO} (b : But p H H') (h : q = p) : But p H (upd H' q o) := fun c u n e => by
  rw [h, upd_ne n]
  exact b c u n e
end
end Gd
namespace Gd
open PySem PySem.Spec PyProof.Rows L2 Evl
/-! ### values that are not told, but bounded: what draws give -/
def EvP (te : TE) (σ : L2.St) (H : Hp) (P : V → Hp → Prop) : Prop := ∀ Q : VK, (∀ v H', P v H' → Q v H') → te σ H Q
def EtP (tt : TT) (σ : L2.St) (H : Hp) (P : Bool → Hp → Prop) : Prop := ∀ Q : Bool → Hp → Prop, (∀ b H', P b H' → Q b H') → tt σ H Q
/-- a drawn int d that keeps C; the draws at p have turned, all else stands -/
def DP (p : Addr) (H : Hp) (C : Int → Prop) : V → Hp → Prop := fun v H' => ∃ d : Int, v = .int d ∧ C d ∧ Drw p H' ∧ But p H H'
section
variable {K : PySem.W.Frag} {H : Hp} {σ : L2.St} {ta tb te : TE} {tt t u : TT} {D : Ends} {tu tz : TS} {P P1 : V → Hp → Prop} {p : Addr} {C C1 : Int → Prop}
theorem EvP.imp {P' : V → Hp → Prop} (h : EvP te σ H P) (k : ∀ v H', P v H' → P' v H') : EvP te σ H P' := fun Q q => h Q fun v H' z => q v H' (k v H' z)
theorem ep_of {v : V} (h : Ev te σ H v) : EvP te σ H (fun v' H' => v' = v ∧ Ex H H') := fun Q q => h H (Ex.refl H) Q fun H2 e2 => q v H2 ⟨rfl, e2⟩
theorem q_asgP {i : Nat} (h : EvP te σ H P) (k : ∀ v H', P v H' → tz D (σ.set i (some v)) H') : tSeq (tAsg te (gName i)) tz D σ H := h _ k
theorem s_asgP {i : Nat} (h : EvP te σ H P) (k : ∀ v H', P v H' → D.nx (σ.set i (some v)) H') : tAsg te (gName i) D σ H := h _ k
theorem s_retP (h : EvP te σ H P) (k : ∀ v H', P v H' → D.rt v H') : tRet te D σ H := h _ k
theorem ep_op {r : R2} (ha : EvP ta σ H P1) (hb : ∀ x H1, P1 x H1 → EvP tb σ H1 (fun y H2 => ∀ Q : VK, (∀ v H', P v H' → Q v H') → r x y H2 Q)) : EvP (tOp r ta tb) σ H P := fun Q q =>
  ha _ fun x H1 p1 => hb x H1 p1 _ fun y H2 h2 => h2 Q q
/-- i op (a drawn one) -/
theorem ep_opD {r : R2} {x : V} {g : Int → Int} (ha : Ev ta σ H x) (hb : ∀ H1, Ex H H1 → EvP tb σ H1 (DP p H1 C)) (hr : ∀ d H2 (Q : VK), C d → Q (.int (g d)) H2 → r x (.int d) H2 Q) (hC : ∀ d, C d → C1 (g d)) : EvP (tOp r ta tb) σ H (DP p H C1) := fun Q q =>
  ha H (Ex.refl H) _ fun H1 e1 => hb H1 e1 _ fun y H2 ⟨d, hv, hc, hD, b⟩ => by
    subst hv
    exact hr d H2 Q hc (q _ H2 ⟨g d, rfl, hC d hc, hD, (ex_but e1).trans b⟩)
/-- (a drawn one) op j -/
theorem ep_opL {r : R2} {y : V} {g : Int → Int} (ha : EvP ta σ H (DP p H C)) (hb : ∀ H1, Ev tb σ H1 y) (hr : ∀ d H2 (Q : VK), C d → Q (.int (g d)) H2 → r (.int d) y H2 Q) (hC : ∀ d, C d → C1 (g d)) : EvP (tOp r ta tb) σ H (DP p H C1) := fun Q q =>
  ha _ fun x H1 ⟨d, hv, hc, hD, b⟩ => by
    subst hv
    exact hb H1 H1 (Ex.refl H1) _ fun H2 e2 => hr d H2 Q hc (q _ H2 ⟨g d, rfl, hC d hc, hD.ex e2, b.trans (ex_but e2)⟩)
/-- two drawn ones -/
theorem ep_opDD {r : R2} {C2 : Int → Prop} {g : Int → Int → Int} (ha : EvP ta σ H (DP p H C)) (hb : ∀ H1, Drw p H1 → EvP tb σ H1 (DP p H1 C2)) (hr : ∀ d e H2 (Q : VK), C d → C2 e → Q (.int (g d e)) H2 → r (.int d) (.int e) H2 Q) (hC : ∀ d e, C d → C2 e → C1 (g d e)) : EvP (tOp r ta tb) σ H (DP p H C1) := fun Q q =>
  ha _ fun x H1 ⟨d, hv, hc, hD, b⟩ => by
    subst hv
    exact hb H1 hD _ fun y H2 ⟨e, hv2, hc2, hD2, b2⟩ => by
      subst hv2
      exact hr d e H2 Q hc hc2 (q _ H2 ⟨g d e, rfl, hC d e hc hc2, hD2, b.trans b2⟩)
/-- for k in range(drawn) -/
theorem q_forRP {j : Nat} (h : EvP te σ H P) (k : ∀ v H1, P v H1 → ∃ n : Nat, v = .int (n : Int) ∧ n ≤ 100000 ∧ ∃ Pv : Nat → L2.St → Hp → Prop, Pv 0 σ H1 ∧
    (∀ (i : Nat) σ' H', i < n → Pv i σ' H' → tu { D with nx := Pv (i + 1), ct := Pv (i + 1), bk := tz D } (σ'.set j (some (.int (i : Int)))) H') ∧ ∀ σ' H', Pv n σ' H' → tz D σ' H') :
    tSeq (tFor (iRng1 (tCons te tNil)) (gName j) tu) tz D σ H := h _ fun v H1 hv => by
  obtain ⟨n, rfl, hn, Pv, h0, hs, hd⟩ := k v H1 hv
  refine ⟨(n : Int), rfl, by omega, by omega, for_range (D := { D with nx := tz D }) (lo := 0) (n := n) Pv h0 (fun i σ' H' hi q => ?_) hd⟩
  have e0 : (0 : Int) + (i : Int) = (i : Int) := Int.zero_add _
  show tu { D with nx := Pv (i + 1), ct := Pv (i + 1), bk := tz D } (σ'.set j (some (.int ((0 : Int) + (i : Int))))) H'
  rw [e0]
  exact hs i σ' H' hi q
/-- the same, at a body's end -/
theorem s_forRP {j : Nat} (h : EvP te σ H P) (k : ∀ v H1, P v H1 → ∃ n : Nat, v = .int (n : Int) ∧ n ≤ 100000 ∧ ∃ Pv : Nat → L2.St → Hp → Prop, Pv 0 σ H1 ∧
    (∀ (i : Nat) σ' H', i < n → Pv i σ' H' → tu { D with nx := Pv (i + 1), ct := Pv (i + 1), bk := D.nx } (σ'.set j (some (.int (i : Int)))) H') ∧ ∀ σ' H', Pv n σ' H' → D.nx σ' H') :
    tFor (iRng1 (tCons te tNil)) (gName j) tu D σ H := q_forRP (tz := fun D => D.nx) (D := D) h k
/-- l.append(drawn) -/
theorem s_appP {l : Addr} {xs : List V} (ha : Ev ta σ H (.ref l)) (hl : H l = some (.lst xs)) (hz : xs.length < 100000) (h : ∀ H1, Ex H H1 → EvP te σ H1 P) (k : ∀ v H1, P v H1 → H1 l = some (.lst xs) ∧ D.nx σ (upd H1 l (.lst (xs ++ [v])))) :
    tDrop (tBM K "list" rAppend ta (tCons te tNil)) D σ H := ha H (Ex.refl H) _ fun H1 e1 =>
  ⟨Or.inl ⟨rfl, xs, sq_of (e1 l _ hl)⟩, h H1 e1 _ fun v H2 hv => ⟨l, xs, v, rfl, rfl, (k v H2 hv).1, sz_lt hz, (k v H2 hv).2⟩⟩
/-- tests -/
theorem etp_of {b : Bool} (h : EvT tt σ H b) : EtP tt σ H (fun b' H' => b' = b ∧ Ex H H') := fun Q q => h H (Ex.refl H) Q fun H2 e2 => q b H2 ⟨rfl, e2⟩
theorem etp_cmpD {r : R2} {y : V} {P2 : Bool → Hp → Prop} (ha : EvP ta σ H (DP p H C)) (hb : ∀ H1, Ev tb σ H1 y) (hr : ∀ d H2 (Q : VK), C d → (∀ b, Q (.bl b) H2) → r (.int d) y H2 Q) (k : ∀ b H', Drw p H' → But p H H' → P2 b H') : EtP (tTest (tOp r ta tb)) σ H P2 := fun Q q =>
  ha _ fun x H1 ⟨d, hv, hc, hD, b⟩ => by
    subst hv
    exact hb H1 H1 (Ex.refl H1) _ fun H2 e2 => hr d H2 _ hc fun b' => ⟨b', rfl, q b' H2 (k b' H2 (hD.ex e2) (b.trans (ex_but e2)))⟩
theorem etp_and {P1 P2 : Bool → Hp → Prop} (h1 : EtP t σ H P1) (h2 : ∀ H', P1 true H' → EtP u σ H' P2) (h3 : ∀ H', P1 false H' → P2 false H') : EtP (tAnd t u) σ H P2 := fun Q q =>
  h1 _ fun b H' hb => by
    cases b with
    | true => exact h2 H' hb Q q
    | false => exact q false H' (h3 H' hb)
theorem s_whenP {P2 : Bool → Hp → Prop} (h : EtP t σ H P2) (h1 : ∀ H', P2 true H' → tu D σ H') (h2 : ∀ H', P2 false H' → D.nx σ H') : tIfS t tu tNext D σ H := h _ fun b H' hb => by
  cases b with
  | true => exact h1 H' hb
  | false => exact h2 H' hb
/-- l[drawn] = e, e drawn -/
theorem s_setP {l : Addr} {to ti : TE} {P2 : V → Hp → Prop} (h : EvP te σ H P1) (ho : ∀ H1, Ev to σ H1 (.ref l)) (hi : ∀ v H1, P1 v H1 → ∀ H2, Ex H1 H2 → EvP ti σ H2 (P2))
    (k : ∀ v H1 H2 i H3, P1 v H1 → Ex H1 H2 → P2 i H3 → ∃ xs n j, i = .int n ∧ H3 l = some (.lst xs) ∧ ixN xs.length n = some j ∧ D.nx σ (upd H3 l (.lst (xs.set j v)))) : tAsg te (gSub to ti rSetL) D σ H := h _ fun v H1 hv =>
  ho H1 H1 (Ex.refl H1) _ fun H2 e2 => hi v H1 hv H2 e2 _ fun i H3 hi3 => by
    obtain ⟨xs, n, j, rfl, hl, hj, q⟩ := k v H1 H2 i H3 hv e2 hi3
    exact ⟨l, xs, n, j, rfl, rfl, hl, hj, q⟩
theorem dp_bk {p : Addr} {H H1 : Hp} {C C1 : Int → Prop} {v : V} {H' : Hp} (h : DP p H1 C v H') (b : But p H H1) (hC : ∀ d, C d → C1 d) : DP p H C1 v H' := let ⟨d, hv, hc, hD, b2⟩ := h; ⟨d, hv, hC d hc, hD, b.trans b2⟩
theorem ixN_of {n : Nat} {d : Int} (h0 : 0 ≤ d) (h1 : d < (n : Int)) : ixN n d = some d.toNat := by
  have e : d = ((d.toNat : Nat) : Int) := by omega
  rw [e]
  exact ixN_nat (by omega)
end
end Gd

set_option Elab.async false
set_option linter.all false
set_option maxRecDepth 100000
set_option maxHeartbeats 4000000
/-! Of our own: attributes, methods and dicts, by what evaluates. -/
namespace Gd
open PySem PySem.Spec PyProof.Rows L2 Evl
section
variable {K : PySem.W.Frag} {H : Hp} {σ : L2.St} {ta tb te tv td ty : TE} {t : TA} {D : Ends} {tz : TS} {a C dx : Addr} {fs : List (Str × V)} {f m : Str} {x y v z : V}
theorem ev_fld (h : Ev ta σ H (.ref a)) (ho : H a = some (.ins C dx fs)) (hc : Cls K C) (hn : NoAttr K C f) (hl : fs.lookup f = some v) : Ev (tFld K ta f) σ H v := fun H1 e Q q =>
  h H1 e _ fun H2 e2 => ⟨a, C, dx, fs, v, rfl, e2 _ _ (e _ _ ho), hc, hn, hl, q H2 e2⟩
theorem s_fld (hv : Ev tv σ H y) (ha : Ev ta σ H (.ref a)) (ho : H a = some (.ins C dx fs)) (hc : Cls K C) (hn : NoAttr K C f) (hz : fs.length < 1000) (k : ∀ H1, Ex H H1 → D.nx σ (upd H1 a (.ins C dx (putF f y fs)))) : sFld K ta tv f D σ H :=
  hv H (Ex.refl H) _ fun H1 e1 => ha H1 e1 _ fun H2 e2 => ⟨a, C, dx, fs, rfl, e2 _ _ (e1 _ _ ho), hc, hn, hz, k H2 (e1.trans e2)⟩
theorem q_fld (hv : Ev tv σ H y) (ha : Ev ta σ H (.ref a)) (ho : H a = some (.ins C dx fs)) (hc : Cls K C) (hn : NoAttr K C f) (hz : fs.length < 1000) (k : ∀ H1, Ex H H1 → tz D σ (upd H1 a (.ins C dx (putF f y fs)))) : tSeq (sFld K ta tv f) tz D σ H :=
  s_fld (D := { D with nx := tz D }) hv ha ho hc hn hz k
/-- o.f = [..], a new list -/
theorem s_fldL {xs : List V} (hv : EvL tv σ H xs) (ha : Ev ta σ H (.ref a)) (ho : H a = some (.ins C dx fs)) (hc : Cls K C) (hn : NoAttr K C f) (hz : fs.length < 1000) (k : ∀ p H1, H p = none → Ex H H1 → H1 p = some (.lst xs) → D.nx σ (upd H1 a (.ins C dx (putF f (.ref p) fs)))) : sFld K ta tv f D σ H :=
  hv H (Ex.refl H) _ fun p H1 hp e1 h1 => ha H1 e1 _ fun H2 e2 => ⟨a, C, dx, fs, rfl, e2 _ _ (e1 _ _ ho), hc, hn, hz, k p H2 hp (e1.trans e2) (e2 _ _ h1)⟩
theorem q_fldL {xs : List V} (hv : EvL tv σ H xs) (ha : Ev ta σ H (.ref a)) (ho : H a = some (.ins C dx fs)) (hc : Cls K C) (hn : NoAttr K C f) (hz : fs.length < 1000) (k : ∀ p H1, H p = none → Ex H H1 → H1 p = some (.lst xs) → tz D σ (upd H1 a (.ins C dx (putF f (.ref p) fs)))) : tSeq (sFld K ta tv f) tz D σ H :=
  s_fldL (D := { D with nx := tz D }) hv ha ho hc hn hz k
/-- o.f += e, ints -/
theorem s_fldaug {i j : Int} (ha : Ev ta σ H (.ref a)) (ho : H a = some (.ins C dx fs)) (hc : Cls K C) (hn : NoAttr K C f) (hl : fs.lookup f = some (.int i)) (hv : ∀ H1, Ex H H1 → Ev tv σ H1 (.int j)) (hz : fs.length < 1000) (k : ∀ H1, Ex H H1 → D.nx σ (upd H1 a (.ins C dx (putF f (.int (i + j)) fs)))) : sFldAug K ta tv L2.rAdd f D σ H :=
  ha H (Ex.refl H) _ fun H1 e1 => ⟨a, C, dx, fs, .int i, rfl, e1 _ _ ho, hc, hn, hl, hv H1 e1 H1 (Ex.refl H1) _ fun H2 e2 => ⟨i, j, rfl, rfl, dx, fs, e2 _ _ (e1 _ _ ho), hz, k H2 (e1.trans e2)⟩⟩
theorem q_fldaug {i j : Int} (ha : Ev ta σ H (.ref a)) (ho : H a = some (.ins C dx fs)) (hc : Cls K C) (hn : NoAttr K C f) (hl : fs.lookup f = some (.int i)) (hv : ∀ H1, Ex H H1 → Ev tv σ H1 (.int j)) (hz : fs.length < 1000) (k : ∀ H1, Ex H H1 → tz D σ (upd H1 a (.ins C dx (putF f (.int (i + j)) fs)))) : tSeq (sFldAug K ta tv L2.rAdd f) tz D σ H :=
  s_fldaug (D := { D with nx := tz D }) ha ho hc hn hl hv hz k
/-- o.m(..) -/
theorem ep_meth {sp : Sp} {E : XK} {vs : List V} {P : V → Hp → Prop} (ha : Ev ta σ H (.ref a)) (ho : H a = some (.ins C dx fs)) (hl : fs.lookup m = none) (ht : EvA t σ H vs) (hs : ∀ H1, Ex H H1 → ∀ Q : VK, (∀ v H', P v H' → Q v H') → sp (.ref a :: (vs ++ [])) H1 Q E) : EvP (tMeth C m sp [] E ta t) σ H P := fun Q q =>
  ha H (Ex.refl H) _ fun H1 e1 => ⟨a, dx, fs, rfl, e1 _ _ ho, hl, ht H1 e1 _ fun H2 e2 => hs H2 (e1.trans e2) Q q⟩
theorem ep_call {sp : Sp} {E : XK} {vs dvs : List V} {P : V → Hp → Prop} (ht : EvA t σ H vs) (hs : ∀ H1, Ex H H1 → ∀ Q : VK, (∀ v H', P v H' → Q v H') → sp (vs ++ dvs) H1 Q E) : EvP (tCall sp dvs E t) σ H P := fun Q q => ht H (Ex.refl H) _ fun H1 e1 => hs H1 e1 Q q
theorem q_dropP {P : V → Hp → Prop} (h : EvP te σ H P) (k : ∀ v H', P v H' → tz D σ H') : tSeq (tDrop te) tz D σ H := h _ k
theorem s_dropP {P : V → Hp → Prop} (h : EvP te σ H P) (k : ∀ v H', P v H' → D.nx σ H') : tDrop te D σ H := h _ k
/-- the truth of a bool that is read as any value -/
theorem et_truB {b : Bool} (h : Ev te σ H (.bl b)) : EvT (fun σ H Q => te σ H fun x H' => ∃ k, TruV K x H' k ∧ Q k H') σ H b := fun H1 e Q q => h H1 e _ fun H2 e2 => ⟨b, rfl, q H2 e2⟩
/-- d[k], d[k] = v -/
theorem ev_dget {kvs : List (Key × V)} {k : Key} (h : Ev td σ H (.ref a)) (hk : Ev ty σ H (kV k)) (hd : H a = some (.dK kvs)) (hv : valV kvs k = some v) : Ev (tDGet td ty) σ H v := fun H1 e Q q =>
  h H1 e _ fun H2 e2 => hk H2 (e.trans e2) _ fun H3 e3 => ⟨a, v, rfl, by rw [← hv]; exact DGet.k (e3 _ _ (e2 _ _ (e _ _ hd))), q H3 (e2.trans e3)⟩
theorem s_dput {kvs : List (Key × V)} {k : Key} (hv : Ev tv σ H v) (h : Ev td σ H (.ref a)) (hk : Ev ty σ H (kV k)) (hd : H a = some (.dK kvs)) (hz : kvs.length < 1000) (q : ∀ H1, Ex H H1 → D.nx σ (upd H1 a (.dK (putK kvs k v)))) : sDPut td ty tv D σ H :=
  hv H (Ex.refl H) _ fun H1 e1 => h H1 e1 _ fun H2 e2 => hk H2 (e1.trans e2) _ fun H3 e3 => ⟨a, _, rfl, DPut.k (e3 _ _ (e2 _ _ (e1 _ _ hd))) (Nat.lt_of_lt_of_le hz (by decide)), q H3 ((e1.trans e2).trans e3)⟩
theorem q_dput {kvs : List (Key × V)} {k : Key} (hv : Ev tv σ H v) (h : Ev td σ H (.ref a)) (hk : Ev ty σ H (kV k)) (hd : H a = some (.dK kvs)) (hz : kvs.length < 1000) (q : ∀ H1, Ex H H1 → tz D σ (upd H1 a (.dK (putK kvs k v)))) : tSeq (sDPut td ty tv) tz D σ H :=
  s_dput (D := { D with nx := tz D }) hv h hk hd hz q
end
end Gd
namespace Gd
open PySem PySem.Spec PyProof.Rows L2 Evl
/-- [..][drawn] -/
theorem ep_ixD {K : PySem.W.Frag} {H : Hp} {σ : L2.St} {ta tb : TE} {p : Addr} {C1 : Int → Prop} {ms : List Int} (hl : EvL ta σ H (ms.map V.int)) (hD : Drw p H) (hb : ∀ H1, Ex H H1 → EvP tb σ H1 (DP p H1 fun d => 0 ≤ d ∧ d < (ms.length : Int))) (hC : ∀ m ∈ ms, C1 m) :
    EvP (tOp (rIxL K) ta tb) σ H (DP p H C1) := fun Q q =>
  hl H (Ex.refl H) _ fun l H1 hl0 e1 h1 => hb H1 e1 _ fun v H2 ⟨d, hv, hd, hD2, b⟩ => by
    subst hv
    have nlp : l ≠ p := fun e => by
      obtain ⟨ds, h, _⟩ := hD
      rw [e, h] at hl0
      cases hl0
    obtain ⟨j, rfl⟩ : ∃ j : Nat, d = (j : Int) := ⟨d.toNat, by omega⟩
    have hlt : j < ms.length := by omega
    refine ⟨l, ms.map V.int, (j : Int), .int ms[j], rfl, rfl, sq_of (b _ _ nlp h1), atI_nat ?_, q _ H2 ⟨_, rfl, hC _ (List.getElem_mem _), hD2, (ex_but e1).trans b⟩⟩
    rw [List.getElem?_map, List.getElem?_eq_getElem hlt]
    rfl
theorem s_retPL {K : PySem.W.Frag} {te : TE} {σ : L2.St} {H : Hp} {D : Ends} {P : V → Hp → Prop} (h : EvP te σ H P) (k : ∀ v H', P v H' → D.rt v H') : tRet te D σ H := h _ k
end Gd

set_option Elab.async false
set_option linter.all false
set_option maxRecDepth 100000
set_option maxHeartbeats 4000000
/-! Of our own: tests that change the heap, slices of int lists, lists of int lists. -/
namespace Gd
open PySem PySem.Spec PyProof.Rows L2 Evl
section
variable {K : PySem.W.Frag} {H : Hp} {σ : L2.St} {ta tb te : TE} {t u : TT} {D : Ends} {tz tu : TS}
theorem rc_isBool {b : Bool} : RC (rIsi K) [.bl b, .ty "bool"] H (.bl true) := fun H1 _ _ q => ⟨_, _, _, _, true, rfl, .ty "bool", .base (.bl b), kit_ty (by decide +kernel), q H1 (Ex.refl H1)⟩
theorem etp_or {P1 P2 : Bool → Hp → Prop} (h1 : EtP t σ H P1) (h3 : ∀ H', P1 true H' → P2 true H') (h2 : ∀ H', P1 false H' → EtP u σ H' P2) : EtP (tOr t u) σ H P2 := fun Q q =>
  h1 _ fun b H' hb => by
    cases b with
    | true => exact q true H' (h3 H' hb)
    | false => exact h2 H' hb Q q
theorem etp_op {r : R2} {P : V → Hp → Prop} {P2 : Bool → Hp → Prop} (ha : EvP ta σ H P) (hb : ∀ v H1, P v H1 → ∃ y b, Ev tb σ H1 y ∧ RV r v y H1 (.bl b) ∧ ∀ H', Ex H1 H' → P2 b H') : EtP (tTest (tOp r ta tb)) σ H P2 := fun Q q =>
  ha _ fun v H1 hv => by
    obtain ⟨y, b, h2, h3, h4⟩ := hb v H1 hv
    exact h2 H1 (Ex.refl H1) _ fun H2 e2 => h3 H2 e2 _ fun H3 e3 => ⟨b, rfl, q b H3 (h4 H3 (e2.trans e3))⟩
theorem etp_imp {P1 P2 : Bool → Hp → Prop} (h1 : EtP t σ H P1) (k : ∀ b H', P1 b H' → P2 b H') : EtP t σ H P2 := fun Q q => h1 Q fun b H' hb => q b H' (k b H' hb)
theorem etp_not {P1 P2 : Bool → Hp → Prop} (h1 : EtP t σ H P1) (k : ∀ b H', P1 b H' → P2 (!b) H') : EtP (tNot t) σ H P2 := fun Q q => h1 _ fun b H' hb => q (!b) H' (k b H' hb)
theorem etp_B {P : V → Hp → Prop} {P2 : Bool → Hp → Prop} (h : EvP te σ H P) (k : ∀ v H', P v H' → ∃ b, v = .bl b ∧ P2 b H') : EtP (tB te) σ H P2 := fun Q q => h _ fun v H' hv => by
  obtain ⟨b, rfl, hb⟩ := k v H' hv
  exact ⟨b, rfl, q b H' hb⟩
theorem q_whenP {P2 : Bool → Hp → Prop} (h : EtP t σ H P2) (h1 : ∀ H', P2 true H' → tu { D with nx := tz D } σ H') (h2 : ∀ H', P2 false H' → tz D σ H') : tSeq (tIfS t tu tNext) tz D σ H := s_whenP (D := { D with nx := tz D }) h h1 h2
theorem cut_ints (cs : List Int) (i j : Nat) : cutV (cs.map V.int) (some (i : Int)) (some (j : Int)) = ((cs.drop i).take (j - i)).map V.int := by
  unfold cutV
  rw [HT.sIx_nat, HT.sIx_nat, List.length_map, ← List.map_drop, ← List.map_take]
  congr 1
  rcases Nat.lt_or_ge cs.length i with h | h
  · rw [List.drop_eq_nil_of_le (by omega), List.drop_eq_nil_of_le (by omega), List.take_nil, List.take_nil]
  · rw [Nat.min_eq_left h]
    rcases Nat.lt_or_ge cs.length j with g | g
    · rw [Nat.min_eq_right (by omega), List.take_of_length_le (by rw [List.length_drop]; omega), List.take_of_length_le (by rw [List.length_drop]; omega)]
    · rw [Nat.min_eq_left g]
theorem cut_from (cs : List Int) (i : Nat) : cutV (cs.map V.int) (some (i : Int)) none = (cs.drop i).map V.int := by
  unfold cutV
  rw [HT.sIx_nat, HT.sIx_none, List.length_map, ← List.map_drop, ← List.map_take]
  congr 1
  rcases Nat.lt_or_ge cs.length i with h | h
  · rw [List.drop_eq_nil_of_le (by omega), List.drop_eq_nil_of_le (by omega), List.take_nil]
  · rw [Nat.min_eq_left h, List.take_of_length_le (by rw [List.length_drop]; omega)]
/-- lists of int lists -/
def Pcs (H : Hp) : List Addr → List (List Int) → Prop
  | [], [] => True
  | a :: as, l :: ls => H a = some (.lst (l.map V.int)) ∧ Pcs H as ls
  | _, _ => False
theorem Pcs.keep {H H' : Hp} : ∀ {as : List Addr} {ls : List (List Int)}, Pcs H as ls → (∀ a o, a ∈ as → H a = some o → H' a = some o) → Pcs H' as ls
  | [], [], _, _ => trivial
  | a :: as, l :: ls, h, k => ⟨k a _ (List.mem_cons_self) h.1, Pcs.keep h.2 fun b o m => k b o (List.mem_cons_of_mem _ m)⟩
  | [], _ :: _, h, _ => h.elim
  | _ :: _, [], h, _ => h.elim
theorem Pcs.ex {H H' : Hp} {as : List Addr} {ls : List (List Int)} (h : Pcs H as ls) (e : Ex H H') : Pcs H' as ls := h.keep fun a o _ => e a o
theorem Pcs.len {H : Hp} : ∀ {as : List Addr} {ls : List (List Int)}, Pcs H as ls → as.length = ls.length
  | [], [], _ => rfl
  | a :: as, l :: ls, h => by rw [List.length_cons, List.length_cons, h.2.len]
  | [], _ :: _, h => h.elim
  | _ :: _, [], h => h.elim
theorem Pcs.snoc {H : Hp} : ∀ {as : List Addr} {ls : List (List Int)} {a : Addr} {l : List Int}, Pcs H as ls → H a = some (.lst (l.map V.int)) → Pcs H (as ++ [a]) (ls ++ [l])
  | [], [], _, _, _, h => ⟨h, trivial⟩
  | b :: as, m :: ls, _, _, g, h => ⟨g.1, g.2.snoc h⟩
  | [], _ :: _, _, _, g, _ => g.elim
  | _ :: _, [], _, _, g, _ => g.elim
theorem Pcs.at {H : Hp} : ∀ {as : List Addr} {ls : List (List Int)}, Pcs H as ls → ∀ i, i < as.length → ∃ a l, as[i]? = some a ∧ ls[i]? = some l ∧ a ∈ as ∧ H a = some (.lst (l.map V.int))
  | [], [], _, i, h => absurd h (Nat.not_lt_zero i)
  | a :: as, l :: ls, h, 0, _ => ⟨a, l, rfl, rfl, List.mem_cons_self, h.1⟩
  | a :: as, l :: ls, h, i + 1, g => by
    obtain ⟨b, m, h1, h2, h3, h4⟩ := h.2.at i (by simpa using g)
    exact ⟨b, m, by rw [List.getElem?_cons_succ]; exact h1, by rw [List.getElem?_cons_succ]; exact h2, List.mem_cons_of_mem _ h3, h4⟩
  | [], _ :: _, h, _, _ => h.elim
  | _ :: _, [], h, _, _ => h.elim
theorem Pcs.some {H : Hp} : ∀ {as : List Addr} {ls : List (List Int)}, Pcs H as ls → ∀ a ∈ as, ∃ o, H a = some o
  | [], [], _, a, h => nomatch h
  | b :: as, l :: ls, h, a, m => by
    rcases List.mem_cons.mp m with rfl | m
    · exact ⟨_, h.1⟩
    · exact h.2.some a m
  | [], _ :: _, h, _, _ => h.elim
  | _ :: _, [], h, _, _ => h.elim
/-- all but the given addresses keep what they hold -/
def Bu (L : List Addr) (H H' : Hp) : Prop := ∀ b o, b ∉ L → H b = some o → H' b = some o
theorem Bu.refl {L : List Addr} {H : Hp} : Bu L H H := fun _ _ _ h => h
theorem Bu.trans {L : List Addr} {H H1 H2 : Hp} (a : Bu L H H1) (b : Bu L H1 H2) : Bu L H H2 := fun c o n h => b c o n (a c o n h)
theorem Bu.mono {L L' : List Addr} {H H' : Hp} (b : Bu L H H') (m : ∀ a ∈ L, a ∈ L') : Bu L' H H' := fun c o n h => b c o (fun g => n (m c g)) h
theorem ex_bu {L : List Addr} {H H' : Hp} (e : Ex H H') : Bu L H H' := fun b o _ h => e b o h
theorem Bu.upd {L : List Addr} {H H' : Hp} {a : Addr} {o : HO} (b : Bu L H H') (m : a ∈ L ∨ H a = none) : Bu L H (upd H' a o) := fun c u n h => by
  rcases m with m | m
  · rw [upd_ne (fun e => n (by rw [e]; exact m))]
    exact b c u n h
  · rw [upd_ne (ne_of_none h m)]
    exact b c u n h
theorem el_callL {sp : Sp} {dvs xs ys : List V} {E : XK} (h : EvL te σ H xs) (hs : ∀ p H1, H1 p = some (.lst xs) → Ex H H1 → SpL sp ([.ref p] ++ dvs) H1 ys) : EvL (tCall sp dvs E (tCons te tNil)) σ H ys := fun H0 e Q q =>
  h H0 e _ fun p H1 _ e1 hp => hs p H1 hp (e.trans e1) H1 (Ex.refl H1) Q (fun p' H2 hp' e2 h2 => q p' H2 (fresh_back e1 hp') (e1.trans e2) h2) E
theorem len_flat {α : Type} {ps : List (List α)} {i : Nat} {l : List α} (h : ps[i]? = some l) : l.length ≤ ps.flatten.length := by
  induction ps generalizing i with
  | nil => simp at h
  | cons a r ih =>
    rw [List.flatten_cons, List.length_append]
    cases i with
    | zero => simp at h; subst h; omega
    | succ i => have := ih (by simpa using h); omega
theorem len_take_flat {α : Type} (ps : List (List α)) (i : Nat) : (ps.take i).flatten.length ≤ ps.flatten.length := by
  have h := congrArg List.length (congrArg List.flatten (List.take_append_drop i ps))
  rw [List.flatten_append, List.length_append] at h
  omega
theorem take_snocF {α : Type} {ps : List (List α)} {i : Nat} {l : List α} (h : ps[i]? = some l) : (ps.take (i + 1)).flatten = (ps.take i).flatten ++ l := by
  rw [List.take_succ, h]
  simp
end
end Gd

set_option Elab.async false
set_option linter.all false
set_option maxRecDepth 100000
set_option maxHeartbeats 4000000
namespace K17
open PySem PySem.Spec PyProof.Rows L2 Evl Gd
/-! ### the text -/
def topS (i : Nat) : Stmt := PySem.Challenge.pw_plinth_k17_short_in_pieces.main.body.getD i (.Pass ⟨0, 0, 0, 0⟩)
abbrev s_is_digit : Stmt := topS 6
abbrev N_is_digit : List Str := ["code"]
theorem sc_is_digit : FnScope N_is_digit ["code"] (defScope s_is_digit) := ⟨rfl, rfl, rfl, by decide +kernel, rfl, by decide +kernel, by decide +kernel⟩
abbrev s_with_digit : Stmt := topS 7
abbrev N_with_digit : List Str := ["number", "code"]
theorem sc_with_digit : FnScope N_with_digit ["number", "code"] (defScope s_with_digit) := ⟨rfl, rfl, rfl, by decide +kernel, rfl, by decide +kernel, by decide +kernel⟩
abbrev s_ShortReader_init : Stmt := inClass (topS 10) 0
abbrev N_ShortReader_init : List Str := ["self"]
theorem sc_ShortReader_init : FnScope N_ShortReader_init ["self"] (defScope s_ShortReader_init) := ⟨rfl, rfl, rfl, by decide +kernel, rfl, by decide +kernel, by decide +kernel⟩
abbrev s_ShortReader_feed : Stmt := inClass (topS 10) 1
abbrev N_ShortReader_feed : List Str := ["self", "codes", "code"]
theorem sc_ShortReader_feed : FnScope N_ShortReader_feed ["self", "codes"] (defScope s_ShortReader_feed) := ⟨rfl, rfl, rfl, by decide +kernel, rfl, by decide +kernel, by decide +kernel⟩
abbrev s_ShortReader_image : Stmt := inClass (topS 10) 2
abbrev N_ShortReader_image : List Str := ["self"]
theorem sc_ShortReader_image : FnScope N_ShortReader_image ["self"] (defScope s_ShortReader_image) := ⟨rfl, rfl, rfl, by decide +kernel, rfl, by decide +kernel, by decide +kernel⟩
abbrev s_ShortReader_take : Stmt := inClass (topS 10) 3
abbrev N_ShortReader_take : List Str := ["self", "code"]
theorem sc_ShortReader_take : FnScope N_ShortReader_take ["self", "code"] (defScope s_ShortReader_take) := ⟨rfl, rfl, rfl, by decide +kernel, rfl, by decide +kernel, by decide +kernel⟩
abbrev s_ShortReader_take_sign : Stmt := inClass (topS 10) 4
abbrev N_ShortReader_take_sign : List Str := ["self", "code"]
theorem sc_ShortReader_take_sign : FnScope N_ShortReader_take_sign ["self", "code"] (defScope s_ShortReader_take_sign) := ⟨rfl, rfl, rfl, by decide +kernel, rfl, by decide +kernel, by decide +kernel⟩
abbrev s_ShortReader_emit : Stmt := inClass (topS 10) 5
abbrev N_ShortReader_emit : List Str := ["self", "operation", "argument", "successor"]
theorem sc_ShortReader_emit : FnScope N_ShortReader_emit ["self", "operation", "argument", "successor"] (defScope s_ShortReader_emit) := ⟨rfl, rfl, rfl, by decide +kernel, rfl, by decide +kernel, by decide +kernel⟩
abbrev s_translate_short : Stmt := topS 11
abbrev N_translate_short : List Str := ["codes", "reader"]
theorem sc_translate_short : FnScope N_translate_short ["codes"] (defScope s_translate_short) := ⟨rfl, rfl, rfl, by decide +kernel, rfl, by decide +kernel, by decide +kernel⟩
abbrev s_law_number : Stmt := topS 13
abbrev N_law_number : List Str := ["cell"]
theorem sc_law_number : FnScope N_law_number ["cell"] (defScope s_law_number) := ⟨rfl, rfl, rfl, by decide +kernel, rfl, by decide +kernel, by decide +kernel⟩
abbrev s_law_draws : Stmt := topS 14
abbrev N_law_draws : List Str := ["script", "draws", "seed", "cell", "rest", "k", "once", "twice"]
theorem sc_law_draws : FnScope N_law_draws ["script"] (defScope s_law_draws) := ⟨rfl, rfl, rfl, by decide +kernel, rfl, by decide +kernel, by decide +kernel⟩
abbrev s_law_draw : Stmt := topS 15
abbrev N_law_draw : List Str := ["draws"]
theorem sc_law_draw : FnScope N_law_draw ["draws"] (defScope s_law_draw) := ⟨rfl, rfl, rfl, by decide +kernel, rfl, by decide +kernel, by decide +kernel⟩
abbrev s_law_pick : Stmt := topS 16
abbrev N_law_pick : List Str := ["draws", "many"]
theorem sc_law_pick : FnScope N_law_pick ["draws", "many"] (defScope s_law_pick) := ⟨rfl, rfl, rfl, by decide +kernel, rfl, by decide +kernel, by decide +kernel⟩
abbrev s_law_is_integer : Stmt := topS 17
abbrev N_law_is_integer : List Str := ["actual"]
theorem sc_law_is_integer : FnScope N_law_is_integer ["actual"] (defScope s_law_is_integer) := ⟨rfl, rfl, rfl, by decide +kernel, rfl, by decide +kernel, by decide +kernel⟩
abbrev s_law_is_cells : Stmt := topS 18
abbrev N_law_is_cells : List Str := ["actual", "number"]
theorem sc_law_is_cells : FnScope N_law_is_cells ["actual"] (defScope s_law_is_cells) := ⟨rfl, rfl, rfl, by decide +kernel, rfl, by decide +kernel, by decide +kernel⟩
abbrev s_law_code : Stmt := topS 19
abbrev N_law_code : List Str := ["draws", "kind"]
theorem sc_law_code : FnScope N_law_code ["draws"] (defScope s_law_code) := ⟨rfl, rfl, rfl, by decide +kernel, rfl, by decide +kernel, by decide +kernel⟩
abbrev s_law_codes : Stmt := topS 20
abbrev N_law_codes : List Str := ["draws", "many", "codes", "k"]
theorem sc_law_codes : FnScope N_law_codes ["draws", "many"] (defScope s_law_codes) := ⟨rfl, rfl, rfl, by decide +kernel, rfl, by decide +kernel, by decide +kernel⟩
abbrev s_law_step : Stmt := topS 21
abbrev N_law_step : List Str := ["state", "code"]
theorem sc_law_step : FnScope N_law_step ["state", "code"] (defScope s_law_step) := ⟨rfl, rfl, rfl, by decide +kernel, rfl, by decide +kernel, by decide +kernel⟩
abbrev s_law_emit : Stmt := topS 22
abbrev N_law_emit : List Str := ["state", "op", "arg", "successor"]
theorem sc_law_emit : FnScope N_law_emit ["state", "op", "arg", "successor"] (defScope s_law_emit) := ⟨rfl, rfl, rfl, by decide +kernel, rfl, by decide +kernel, by decide +kernel⟩
abbrev s_law_begun : Stmt := topS 23
abbrev N_law_begun : List Str := []
theorem sc_law_begun : FnScope N_law_begun [] (defScope s_law_begun) := ⟨rfl, rfl, rfl, by decide +kernel, rfl, by decide +kernel, by decide +kernel⟩
abbrev s_law_pieces : Stmt := topS 24
abbrev N_law_pieces : List Str := ["draws", "codes", "pieces", "at", "k", "size"]
theorem sc_law_pieces : FnScope N_law_pieces ["draws", "codes"] (defScope s_law_pieces) := ⟨rfl, rfl, rfl, by decide +kernel, rfl, by decide +kernel, by decide +kernel⟩
abbrev s_law_is_at : Stmt := topS 25
abbrev N_law_is_at : List Str := ["reader", "state", "image"]
theorem sc_law_is_at : FnScope N_law_is_at ["reader", "state"] (defScope s_law_is_at) := ⟨rfl, rfl, rfl, by decide +kernel, rfl, by decide +kernel, by decide +kernel⟩
abbrev s_law_feeds : Stmt := topS 26
abbrev N_law_feeds : List Str := ["reader", "state", "piece", "passed", "k", "code"]
theorem sc_law_feeds : FnScope N_law_feeds ["reader", "state", "piece"] (defScope s_law_feeds) := ⟨rfl, rfl, rfl, by decide +kernel, rfl, by decide +kernel, by decide +kernel⟩
abbrev s_law : Stmt := topS 27
abbrev N_law : List Str := ["script", "draws", "codes", "pieces", "one", "other", "first", "second", "k"]
theorem sc_law : FnScope N_law ["script"] (defScope s_law) := ⟨rfl, rfl, rfl, by decide +kernel, rfl, by decide +kernel, by decide +kernel⟩
/-! ### what the top has written -/
structure Txt (K : PySem.W.Frag) (mg : Str → Option Value) where
  C_ShortReader : Addr
  f_is_digit : Addr
  d_is_digit : FuncData
  F_is_digit : Fun K "is_digit" "is_digit" s_is_digit f_is_digit d_is_digit
  b_is_digit : Binds K d_is_digit ["code"] []
  g_is_digit : mg "is_digit" = some (.ref f_is_digit)
  f_with_digit : Addr
  d_with_digit : FuncData
  F_with_digit : Fun K "with_digit" "with_digit" s_with_digit f_with_digit d_with_digit
  b_with_digit : Binds K d_with_digit ["number", "code"] []
  g_with_digit : mg "with_digit" = some (.ref f_with_digit)
  f_ShortReader_init : Addr
  d_ShortReader_init : FuncData
  F_ShortReader_init : Fun K "__init__" "ShortReader.__init__" s_ShortReader_init f_ShortReader_init d_ShortReader_init
  b_ShortReader_init : Binds K d_ShortReader_init ["self"] []
  m_ShortReader_init : Mk K C_ShortReader f_ShortReader_init
  f_ShortReader_feed : Addr
  d_ShortReader_feed : FuncData
  F_ShortReader_feed : Fun K "feed" "ShortReader.feed" s_ShortReader_feed f_ShortReader_feed d_ShortReader_feed
  b_ShortReader_feed : Binds K d_ShortReader_feed ["self", "codes"] []
  m_ShortReader_feed : Meth K C_ShortReader "feed" f_ShortReader_feed
  f_ShortReader_image : Addr
  d_ShortReader_image : FuncData
  F_ShortReader_image : Fun K "image" "ShortReader.image" s_ShortReader_image f_ShortReader_image d_ShortReader_image
  b_ShortReader_image : Binds K d_ShortReader_image ["self"] []
  m_ShortReader_image : Meth K C_ShortReader "image" f_ShortReader_image
  f_ShortReader_take : Addr
  d_ShortReader_take : FuncData
  F_ShortReader_take : Fun K "_take" "ShortReader._take" s_ShortReader_take f_ShortReader_take d_ShortReader_take
  b_ShortReader_take : Binds K d_ShortReader_take ["self", "code"] []
  m_ShortReader_take : Meth K C_ShortReader "_take" f_ShortReader_take
  f_ShortReader_take_sign : Addr
  d_ShortReader_take_sign : FuncData
  F_ShortReader_take_sign : Fun K "_take_sign" "ShortReader._take_sign" s_ShortReader_take_sign f_ShortReader_take_sign d_ShortReader_take_sign
  b_ShortReader_take_sign : Binds K d_ShortReader_take_sign ["self", "code"] []
  m_ShortReader_take_sign : Meth K C_ShortReader "_take_sign" f_ShortReader_take_sign
  f_ShortReader_emit : Addr
  d_ShortReader_emit : FuncData
  F_ShortReader_emit : Fun K "_emit" "ShortReader._emit" s_ShortReader_emit f_ShortReader_emit d_ShortReader_emit
  b_ShortReader_emit : Binds K d_ShortReader_emit ["self", "operation", "argument", "successor"] []
  m_ShortReader_emit : Meth K C_ShortReader "_emit" f_ShortReader_emit
  f_translate_short : Addr
  d_translate_short : FuncData
  F_translate_short : Fun K "translate_short" "translate_short" s_translate_short f_translate_short d_translate_short
  b_translate_short : Binds K d_translate_short ["codes"] []
  g_translate_short : mg "translate_short" = some (.ref f_translate_short)
  f_law_number : Addr
  d_law_number : FuncData
  F_law_number : Fun K "_law_number" "_law_number" s_law_number f_law_number d_law_number
  b_law_number : Binds K d_law_number ["cell"] []
  g_law_number : mg "_law_number" = some (.ref f_law_number)
  f_law_draws : Addr
  d_law_draws : FuncData
  F_law_draws : Fun K "_law_draws" "_law_draws" s_law_draws f_law_draws d_law_draws
  b_law_draws : Binds K d_law_draws ["script"] []
  g_law_draws : mg "_law_draws" = some (.ref f_law_draws)
  f_law_draw : Addr
  d_law_draw : FuncData
  F_law_draw : Fun K "_law_draw" "_law_draw" s_law_draw f_law_draw d_law_draw
  b_law_draw : Binds K d_law_draw ["draws"] []
  g_law_draw : mg "_law_draw" = some (.ref f_law_draw)
  f_law_pick : Addr
  d_law_pick : FuncData
  F_law_pick : Fun K "_law_pick" "_law_pick" s_law_pick f_law_pick d_law_pick
  b_law_pick : Binds K d_law_pick ["draws", "many"] []
  g_law_pick : mg "_law_pick" = some (.ref f_law_pick)
  f_law_is_integer : Addr
  d_law_is_integer : FuncData
  F_law_is_integer : Fun K "_law_is_integer" "_law_is_integer" s_law_is_integer f_law_is_integer d_law_is_integer
  b_law_is_integer : Binds K d_law_is_integer ["actual"] []
  g_law_is_integer : mg "_law_is_integer" = some (.ref f_law_is_integer)
  f_law_is_cells : Addr
  d_law_is_cells : FuncData
  F_law_is_cells : Fun K "_law_is_cells" "_law_is_cells" s_law_is_cells f_law_is_cells d_law_is_cells
  b_law_is_cells : Binds K d_law_is_cells ["actual"] []
  g_law_is_cells : mg "_law_is_cells" = some (.ref f_law_is_cells)
  f_law_code : Addr
  d_law_code : FuncData
  F_law_code : Fun K "_law_code" "_law_code" s_law_code f_law_code d_law_code
  b_law_code : Binds K d_law_code ["draws"] []
  g_law_code : mg "_law_code" = some (.ref f_law_code)
  f_law_codes : Addr
  d_law_codes : FuncData
  F_law_codes : Fun K "_law_codes" "_law_codes" s_law_codes f_law_codes d_law_codes
  b_law_codes : Binds K d_law_codes ["draws", "many"] []
  g_law_codes : mg "_law_codes" = some (.ref f_law_codes)
  f_law_step : Addr
  d_law_step : FuncData
  F_law_step : Fun K "_law_step" "_law_step" s_law_step f_law_step d_law_step
  b_law_step : Binds K d_law_step ["state", "code"] []
  g_law_step : mg "_law_step" = some (.ref f_law_step)
  f_law_emit : Addr
  d_law_emit : FuncData
  F_law_emit : Fun K "_law_emit" "_law_emit" s_law_emit f_law_emit d_law_emit
  b_law_emit : Binds K d_law_emit ["state", "op", "arg", "successor"] []
  g_law_emit : mg "_law_emit" = some (.ref f_law_emit)
  f_law_begun : Addr
  d_law_begun : FuncData
  F_law_begun : Fun K "_law_begun" "_law_begun" s_law_begun f_law_begun d_law_begun
  b_law_begun : Binds K d_law_begun [] []
  g_law_begun : mg "_law_begun" = some (.ref f_law_begun)
  f_law_pieces : Addr
  d_law_pieces : FuncData
  F_law_pieces : Fun K "_law_pieces" "_law_pieces" s_law_pieces f_law_pieces d_law_pieces
  b_law_pieces : Binds K d_law_pieces ["draws", "codes"] []
  g_law_pieces : mg "_law_pieces" = some (.ref f_law_pieces)
  f_law_is_at : Addr
  d_law_is_at : FuncData
  F_law_is_at : Fun K "_law_is_at" "_law_is_at" s_law_is_at f_law_is_at d_law_is_at
  b_law_is_at : Binds K d_law_is_at ["reader", "state"] []
  g_law_is_at : mg "_law_is_at" = some (.ref f_law_is_at)
  f_law_feeds : Addr
  d_law_feeds : FuncData
  F_law_feeds : Fun K "_law_feeds" "_law_feeds" s_law_feeds f_law_feeds d_law_feeds
  b_law_feeds : Binds K d_law_feeds ["reader", "state", "piece"] []
  g_law_feeds : mg "_law_feeds" = some (.ref f_law_feeds)
  f_law : Addr
  d_law : FuncData
  F_law : Fun K "law" "law" s_law f_law d_law
  b_law : Binds K d_law ["script"] []
  g_law : mg "law" = some (.ref f_law)
  h_law : ∀ (s : Shared) (v : Value), BindsTo s d_law ⟨[v], []⟩ [("script", v)]
  gc_ShortReader : mg "ShortReader" = some (.ref C_ShortReader)
  cl_ShortReader : Cls K C_ShortReader
  na_ShortReader_m : NoAttr K C_ShortReader "m"
  na_ShortReader_r : NoAttr K C_ShortReader "r"
  na_ShortReader_waiting : NoAttr K C_ShortReader "waiting"
  na_ShortReader_finished : NoAttr K C_ShortReader "finished"
  na_ShortReader_cells : NoAttr K C_ShortReader "_cells"
  t_COLON : Tok
  c_COLON : mg "COLON" = some (.int 58 t_COLON)
  t_NOP : Tok
  c_NOP : mg "NOP" = some (.int 32 t_NOP)
  t_PUSH : Tok
  c_PUSH : mg "PUSH" = some (.int 35 t_PUSH)
  t_QUOTE : Tok
  c_QUOTE : mg "QUOTE" = some (.int 39 t_QUOTE)
  t_SPACE : Tok
  c_SPACE : mg "SPACE" = some (.int 32 t_SPACE)
  t_GREATER : Tok
  c_GREATER : mg "_GREATER" = some (.int 62 t_GREATER)
  n_bool : mg "bool" = none
  n_int : mg "int" = none
  n_isinstance : mg "isinstance" = none
  n_len : mg "len" = none
  n_list : mg "list" = none
  n_range : mg "range" = none
/-! ### how expressions are evaluated, without a word of ours -/
local macro_rules | `(tactic| walk_at "ev") => `(tactic| exact ev_c)
local macro_rules | `(tactic| walk_at "ev") => `(tactic| exact ev_var rfl)
local macro_rules | `(tactic| walk_at "ev") => `(tactic| (refine' ev_op ?k1 ?k2 ?k3; (case k1 => walk_at "ev"); (case k2 => walk_at "ev"); (case k3 => walk_at "rv")))
local macro_rules | `(tactic| walk_at "ev") => `(tactic| (refine' ev_cb ?k1 ?k2; (case k1 => walk_at "ea"); (case k2 => walk_at "rc")))
local macro_rules | `(tactic| walk_at "ev") => `(tactic| (refine' ev_call ?k1 ?k2; (case k1 => walk_at "ea"); (case k2 => walk_at "sp")))
local macro_rules | `(tactic| walk_at "ev") => `(tactic| (refine' ev_chain ?k1 ?k2 ?k3 (fun _ => ?k4) (fun _ => ?k5); (case k1 => walk_at "ev"); (case k2 => walk_at "ev"); (case k3 => walk_at "rv"); (case k4 => walk_at "ev"); (case k5 => walk_at "rv")))
local macro_rules | `(tactic| walk_at "ev") => `(tactic| (refine' ev_orV ?k1 (fun _ => ?k2); (case k1 => walk_at "ev"); (case k2 => walk_at "ev")))
local macro_rules | `(tactic| walk_at "ev") => `(tactic| (refine' ev_andV ?k1 (fun _ => ?k2); (case k1 => walk_at "ev"); (case k2 => walk_at "ev")))
local macro_rules | `(tactic| walk_at "ev") => `(tactic| (refine' ev_notV ?k1; (case k1 => walk_at "ev")))
local macro_rules | `(tactic| walk_at "ea") => `(tactic| exact ea_nil)
local macro_rules | `(tactic| walk_at "ea") => `(tactic| (refine' ea_cons ?k1 ?k2; (case k1 => walk_at "ev"); (case k2 => walk_at "ea")))
local macro_rules | `(tactic| walk_at "rv") => `(tactic| exact rv_I0)
local macro_rules | `(tactic| walk_at "rv") => `(tactic| exact rv_eqI)
local macro_rules | `(tactic| walk_at "rv") => `(tactic| exact rv_neI)
local macro_rules | `(tactic| walk_at "rv") => `(tactic| exact rv_eqS)
local macro_rules | `(tactic| walk_at "rv") => `(tactic| exact rv_neS)
local macro_rules | `(tactic| walk_at "rv") => `(tactic| exact rv_mod (by decide))
local macro_rules | `(tactic| walk_at "rv") => `(tactic| exact rv_fdiv (by decide) (by decide))
local macro_rules | `(tactic| walk_at "rv") => `(tactic| exact rv_mulR (by decide))
local macro_rules | `(tactic| walk_at "rv") => `(tactic| exact rv_pow (by decide))
local macro_rules | `(tactic| walk_at "rc") => `(tactic| exact rc_int)
local macro_rules | `(tactic| walk_at "rc") => `(tactic| exact rc_ord)
local macro_rules | `(tactic| walk_at "et") => `(tactic| (refine' et_test ?k1; (case k1 => walk_at "ev")))
local macro_rules | `(tactic| walk_at "et") => `(tactic| (refine' et_B ?k1; (case k1 => walk_at "ev")))
local macro_rules | `(tactic| walk_at "et") => `(tactic| (refine' et_not ?k1; (case k1 => walk_at "et")))
local macro_rules | `(tactic| walk_at "et") => `(tactic| (refine' et_or ?k1 (fun _ => ?k2); (case k1 => walk_at "et"); (case k2 => walk_at "et")))
local macro_rules | `(tactic| walk_at "et") => `(tactic| (refine' et_and ?k1 (fun _ => ?k2); (case k1 => walk_at "et"); (case k2 => walk_at "et")))

section
variable {P : Program} {w : World} {K : PySem.W.Frag} {mg : Str → Option Value} {base : Heap}
/-! ### the draws -/
def sp_law_number (K : PySem.W.Frag) : Sp := fun vs H Q _ => ∃ c : Int, vs = [.int c] ∧ ∀ d : Int, RetV (.int (if c < 0 then 0 - c else c)) H Q
theorem v_law_number {c : Int} {H : Hp} : SpV (sp_law_number K) [.int c] H (.int (if c < 0 then 0 - c else c)) := fun _ _ _ q _ => ⟨c, rfl, fun _ => q⟩
theorem ok_law_number (T : Txt K mg) : FnOk P w K mg base CX0 1 T.f_law_number T.d_law_number ["cell"] (sp_law_number K) := by
  refine T.F_law_number.ok sc_law_number (fun vs H Q E h => ?_) (fun cdv A outer s H vs Q E hr h => ?_)
  · obtain ⟨c, rfl, _⟩ := h
    rfl
  · obtain ⟨c, rfl, k⟩ := h
    refine ⟨_, (pss_cons (ps_if (pt_cmpR op_lt (pv 0) pe_int (nomark _)) (pss_one (ps_ret (pe_op op_sub pe_int (pv 0)))) pss_nil)
        (pss_one (ps_ret (pv 0)))), ?_⟩
    have k := k 0
    refine q_when (b := decide (c < 0)) (by walk_at "et") (fun hb H1 e1 => ?_) (fun hb H1 e1 => ?_)
    · rw [if_pos (of_decide_eq_true hb)] at k
      exact s_ret (by walk_at "ev") fun H2 e2 => k H2 (e1.trans e2)
    · rw [if_neg (of_decide_eq_false hb)] at k
      exact s_ret (ev_var rfl) fun H2 e2 => k H2 (e1.trans e2)
def sp_law_draws (K : PySem.W.Frag) : Sp := fun vs H Q _ => ∃ (a : Addr) (ns : List Int), vs = [.ref a] ∧ SqL K H a (ns.map V.int) ∧ ns.length ≤ 63 ∧ ∀ p H2, H p = none → Ex H H2 → Drw p H2 → Q (.ref p) H2
theorem ok_law_draws (T : Txt K mg) : FnOk P w K mg base CX0 2 T.f_law_draws T.d_law_draws ["script"] (sp_law_draws K) := by
  refine T.F_law_draws.ok sc_law_draws (fun vs H Q E h => ?_) (fun cdv A outer s H vs Q E hr h => ?_)
  · obtain ⟨a, ns, rfl, _⟩ := h
    rfl
  · obtain ⟨a, ns, rfl, hS, hl, k⟩ := h
    refine ⟨_, (pss_cons (ps_set (i := 1) sc_law_draws.nd rfl (Or.inl rfl) (pe_lst pa_nil))
        (pss_cons (ps_set (i := 2) sc_law_draws.nd rfl (Or.inl rfl) pe_int)
        (pss_cons (ps_for PassesOwn.never rfl (pi_list (pv 0)) (pg_name (i := 3) sc_law_draws.nd rfl (Or.inl rfl)) (pss_cons (ps_set (i := 4) sc_law_draws.nd rfl (Or.inl rfl) (pe_call (ok_law_number T) (hr.mono (by decide)) (by rfl) T.g_law_number T.F_law_number.kp T.b_law_number .nil pass0 (pa_cons (pv 3) pa_nil)))
        (pss_cons (ps_set (i := 2) sc_law_draws.nd rfl (Or.inl rfl) (pe_op op_modN (pe_callTy call_int1 (by rfl) T.n_int (by decide +kernel) (pa_cons (pe_op op_add (pe_op op_mul (pv 2) pe_int) (pv 4)) pa_nil)) pe_int))
        (pss_one (ps_if (pt_cmpR op_ge (pv 4) pe_int (nomark _)) (pss_one (ps_for PassesOwn.never rfl (pi_range1 (by rfl) T.n_range (pa_cons pe_int pa_nil)) (pg_name (i := 5) sc_law_draws.nd rfl (Or.inl rfl)) (pss_cons (ps_if (pt_cmpR op_eq (pv 4) pe_int (nomark _)) (pss_one ps_break) pss_nil)
        (pss_cons (ps_expr (pe_bm PySem.F.plainAttrs_list PySem.F.slot_list_append PySem.F.type_list_append mt_append (pv 1) (pa_cons (pe_op op_modN (pe_callTy call_int1 (by rfl) T.n_int (by decide +kernel) (pa_cons (pv 4) pa_nil)) pe_int) pa_nil)))
        (pss_one (ps_set (i := 4) sc_law_draws.nd rfl (Or.inl rfl) (pe_op op_fdivN (pv 4) pe_int))))))) (pss_cons (ps_set (i := 6) sc_law_draws.nd rfl (Or.inl rfl) (pe_op op_modN (pe_callTy call_int1 (by rfl) T.n_int (by decide +kernel) (pa_cons (pe_op op_add (pe_op op_mul (pv 4) pe_int) pe_int) pa_nil)) pe_int))
        (pss_cons (ps_set (i := 7) sc_law_draws.nd rfl (Or.inl rfl) (pe_op op_modN (pe_callTy call_int1 (by rfl) T.n_int (by decide +kernel) (pa_cons (pe_op op_add (pe_op op_mul (pv 6) pe_int) (pv 4)) pa_nil)) pe_int))
        (pss_one (ps_expr (pe_bm PySem.F.plainAttrs_list PySem.F.slot_list_extend PySem.F.type_list_extend mt_extend (pv 1) (pa_cons (pe_lst (pa_cons (pe_op op_modN (pe_callTy call_int1 (by rfl) T.n_int (by decide +kernel) (pa_cons (pv 4) pa_nil)) pe_int) (pa_cons (pe_op op_modN (pe_callTy call_int1 (by rfl) T.n_int (by decide +kernel) (pa_cons (pv 6) pa_nil)) pe_int) (pa_cons (pe_op op_modN (pe_callTy call_int1 (by rfl) T.n_int (by decide +kernel) (pa_cons (pv 7) pa_nil)) pe_int) pa_nil)))) pa_nil)))))))))))
        (pss_cons (ps_for PassesOwn.never rfl (pi_range1 (by rfl) T.n_range (pa_cons pe_int pa_nil)) (pg_name (i := 5) sc_law_draws.nd rfl (Or.inl rfl)) (pss_cons (ps_set (i := 2) sc_law_draws.nd rfl (Or.inl rfl) (pe_op op_modN (pe_callTy call_int1 (by rfl) T.n_int (by decide +kernel) (pa_cons (pe_op op_add (pe_op op_mul (pv 2) pe_int) pe_int) pa_nil)) pe_int))
        (pss_one (ps_expr (pe_bm PySem.F.plainAttrs_list PySem.F.slot_list_append PySem.F.type_list_append mt_append (pv 1) (pa_cons (pe_op op_modN (pe_callTy call_int1 (by rfl) T.n_int (by decide +kernel) (pa_cons (pe_op op_fdivN (pv 2) pe_int) pa_nil)) pe_int) pa_nil))))))
        (pss_cons (ps_expr (pe_bm0 PySem.F.plainAttrs_list PySem.F.slot_list_reverse PySem.F.type_list_reverse mt_reverse (pv 1)))
        (pss_one (ps_ret (pv 1)))))))), ?_⟩
    refine q_asgL (el_lst ea_nil (by decide)) (fun p H1 hp e1 d1 => ?_)
    refine q_asg ev_c (fun H2 e2 => ?_)
    have hS2 := ex_l (e1.trans e2) hS
    refine q_forLn (ev_var rfl) hS2 (fun i σ' H' => Ex H H' ∧ ∃ (ds : List Int) (sd : Int) (y3 y4 y5 y6 y7 : Option V), H' p = some (.lst (ds.map V.int)) ∧ (∀ d ∈ ds, 0 ≤ d ∧ d < 1000) ∧ ds.length ≤ 60 * i ∧
      σ' = [some (.ref a), some (.ref p), some (.int sd), y3, y4, y5, y6, y7]) ?_ ?_ ?_ ?_
    · intro H3 e3
      exact ⟨e1.trans (e2.trans e3), [], 7, none, none, none, none, none, e3 _ _ (e2 _ _ d1), Small.nil.1, Nat.zero_le _, rfl⟩
    · rintro i σ' H' _ ⟨e3, _⟩
      exact ex_l e3 hS
    · rintro i x σ' H' hx ⟨e3, ds, sd, y3, y4, y5, y6, y7, hd, hs, hlen, rfl⟩
      obtain ⟨c, hc, rfl⟩ := map_at hx
      have hi : i < 63 := by
        have := (List.getElem?_eq_some_iff.mp hc).1
        omega
      refine q_asg (ev_call (ea_cons (ev_var rfl) ea_nil) v_law_number) (fun H4 e4 => ?_)
      generalize (if c < 0 then 0 - c else c) = rest
      refine q_asg (ev_op (ev_cb (ea_cons (ev_op (ev_op (ev_var rfl) ev_c (rv_mulR (by decide))) (ev_var rfl) rv_I0) ea_nil) rc_int) ev_c (rv_mod (by decide))) (fun H5 e5 => ?_)
      generalize (sd * 48271 + rest).fmod 2147483647 = sd
      refine s_if (b := decide (1000000000000000000 ≤ rest)) (by walk_at "et") (fun hb H6 e6 => ?_) (fun hb H6 e6 => ?_)
      · refine s_forR1 (n := 60) (ea_cons ev_c ea_nil) (by decide) (fun j σ' H' => Ex H H' ∧ ∃ (es : List Int) (rs : Int) (y5 : Option V), H' p = some (.lst (es.map V.int)) ∧ (∀ d ∈ es, 0 ≤ d ∧ d < 1000) ∧ es.length ≤ 60 * i + j ∧
          σ' = [some (.ref a), some (.ref p), some (.int sd), some (.int c), some (.int rs), y5, y6, y7]) ?_ ?_ ?_
        · intro H7 e7
          exact ⟨e3.trans (e4.trans (e5.trans (e6.trans e7))), ds, rest, y5, e7 _ _ (e6 _ _ (e5 _ _ (e4 _ _ hd))), hs, hlen, rfl⟩
        · rintro j σ' H' hj ⟨e7, es, rs, z5, he, hes, hel, rfl⟩
          refine q_when (b := decide (rs = 0)) (by walk_at "et") (fun hb H8 e8 => ?_) (fun hb H8 e8 => ?_)
          · exact ⟨e7.trans e8, es, sd, _, _, _, _, _, e8 _ _ he, hes, by omega, rfl⟩
          · refine q_app (e8 _ _ he) (ev_var rfl) (ev_op (ev_cb (ea_cons (ev_var rfl) ea_nil) rc_int) ev_c (rv_mod (by decide))) (by rw [List.length_map]; omega) (fun H9 e9 => ?_)
            refine s_asg (ev_op (ev_var rfl) ev_c (rv_fdiv (by decide) (by decide))) (fun H10 e10 => ?_)
            refine ⟨((Ex.mut ((e7.trans e8).trans e9) hp).trans e10), es ++ [rs.fmod 1000], rs.fdiv 1000, some (.int (j : Int)), ?_, Small.one hes (fmod_in rs (by decide)), by rw [List.length_append]; simp; omega, rfl⟩
            rw [List.map_append]
            exact e10 _ _ upd_same
        · rintro σ' H' ⟨e7, es, rs, z5, he, hes, hel, rfl⟩
          exact ⟨e7, es, sd, _, _, _, _, _, he, hes, by have : ((60 : Int).toNat) = 60 := rfl; omega, rfl⟩
      · refine q_asg (ev_op (ev_cb (ea_cons (ev_op (ev_op (ev_var rfl) ev_c (rv_mulR (by decide))) ev_c rv_I0) ea_nil) rc_int) ev_c (rv_mod (by decide))) (fun H7 e7 => ?_)
        refine q_asg (ev_op (ev_cb (ea_cons (ev_op (ev_op (ev_var rfl) ev_c (rv_mulR (by decide))) (ev_var rfl) rv_I0) ea_nil) rc_int) ev_c (rv_mod (by decide))) (fun H8 e8 => ?_)
        generalize (rest * 48271 + 11).fmod 2147483647 = once
        generalize (once * 69621 + rest).fmod 2147483629 = twice
        refine s_ext (xs := ds.map V.int) (e8 _ _ (e7 _ _ (e6 _ _ (e5 _ _ (e4 _ _ hd))))) (ev_var rfl) (el_lst (vs := [.int (rest.fmod 1000), .int (once.fmod 1000), .int (twice.fmod 1000)]) (ea_cons (ev_op (ev_cb (ea_cons (ev_var rfl) ea_nil) rc_int) ev_c (rv_mod (by decide))) (ea_cons (ev_op (ev_cb (ea_cons (ev_var rfl) ea_nil) rc_int) ev_c (rv_mod (by decide))) (ea_cons (ev_op (ev_cb (ea_cons (ev_var rfl) ea_nil) rc_int) ev_c (rv_mod (by decide))) ea_nil))) (by show 3 ≤ 100000; decide)) (by rw [List.length_map]; show ds.length + 3 ≤ 100000; omega) (fun H9 e9 => ?_)
        refine ⟨Ex.mut (e3.trans (e4.trans (e5.trans (e6.trans (e7.trans (e8.trans e9)))))) hp, ds ++ [rest.fmod 1000, once.fmod 1000, twice.fmod 1000], sd, _, _, _, _, _, ?_, Small.app hs ?_, ?_, rfl⟩
        · rw [List.map_append]
          exact upd_same
        · intro d hd'
          simp only [List.mem_cons, List.not_mem_nil, or_false] at hd'
          rcases hd' with rfl | rfl | rfl <;> exact fmod_in _ (by decide)
        · rw [List.length_append]
          show ds.length + 3 ≤ 60 * (i + 1)
          omega
    · rintro σ' H' ⟨e3, ds, sd, y3, y4, y5, y6, y7, hd, hs, hlen, rfl⟩
      rw [List.length_map] at hlen
      refine q_forR1 (n := 200) (ea_cons ev_c ea_nil) (by decide) (fun j σ' H' => Ex H H' ∧ ∃ (es : List Int) (sd : Int) (y5 : Option V), H' p = some (.lst (es.map V.int)) ∧ (∀ d ∈ es, 0 ≤ d ∧ d < 1000) ∧ es.length ≤ 60 * 63 + j ∧
          σ' = [some (.ref a), some (.ref p), some (.int sd), y3, y4, y5, y6, y7]) ?_ ?_ ?_
      · intro H4 e4
        exact ⟨e3.trans e4, ds, sd, y5, e4 _ _ hd, hs, by omega, rfl⟩
      · rintro j σ' H' hj ⟨e4, es, sd, z5, he, hes, hel, rfl⟩
        refine q_asg (ev_op (ev_cb (ea_cons (ev_op (ev_op (ev_var rfl) ev_c (rv_mulR (by decide))) ev_c rv_I0) ea_nil) rc_int) ev_c (rv_mod (by decide))) (fun H5 e5 => ?_)
        generalize (sd * 48271 + 12345).fmod 2147483647 = sd
        refine s_app (e5 _ _ he) (ev_var rfl) (ev_op (ev_cb (ea_cons (ev_op (ev_var rfl) ev_c (rv_fdiv (by decide) (by decide))) ea_nil) rc_int) ev_c (rv_mod (by decide))) (by rw [List.length_map]; omega) (fun H6 e6 => ?_)
        refine ⟨Ex.mut (e4.trans (e5.trans e6)) hp, es ++ [(sd.fdiv 7).fmod 1000], sd, some (.int (j : Int)), ?_, Small.one hes (fmod_in _ (by decide)), by rw [List.length_append]; simp; omega, rfl⟩
        rw [List.map_append]
        exact upd_same
      · rintro σ' H' ⟨e4, es, sd, z5, he, hes, hel, rfl⟩
        refine q_rev he (ev_var rfl) (fun H5 e5 => ?_)
        refine s_ret (ev_var rfl) (fun H6 e6 => k p H6 hp ((Ex.mut (e4.trans e5) hp).trans e6) ⟨es.reverse, ?_, fun d hd' => hes d (List.mem_reverse.mp hd'), ?_⟩)
        · rw [List.map_reverse]
          exact e6 _ _ upd_same
        · rw [List.length_reverse]
          have : ((200 : Int).toNat) = 200 := rfl
          omega
def sp_law_draw (K : PySem.W.Frag) : Sp := fun vs H Q _ => ∃ p : Addr, vs = [.ref p] ∧ Drw p H ∧ ∀ v H', DP p H (fun d => 0 ≤ d ∧ d < 1000) v H' → Q v H'
theorem ok_law_draw (T : Txt K mg) : FnOk P w K mg base CX0 1 T.f_law_draw T.d_law_draw ["draws"] (sp_law_draw K) := by
  refine T.F_law_draw.ok sc_law_draw (fun vs H Q E h => ?_) (fun cdv A outer s H vs Q E hr h => ?_)
  · obtain ⟨p, rfl, _⟩ := h
    rfl
  · obtain ⟨p, rfl, hD, k⟩ := h
    refine ⟨_, (pss_cons (ps_if (pt_truth (pv 0) (by intro _; rfl)) (pss_one (ps_ret (pe_bm0 PySem.F.plainAttrs_list PySem.F.slot_list_pop PySem.F.type_list_pop mt_pop (pv 0)))) pss_nil)
        (pss_one (ps_ret pe_int))), ?_⟩
    obtain ⟨ds, hd, hs, hlen⟩ := hD
    refine q_when (et_truL (K := K) (ev_var rfl) (sq_of hd)) (fun hb H1 e1 => ?_) (fun hb H1 e1 => ?_)
    · have hne : ds ≠ [] := by intro z; subst z; cases hb
      obtain ⟨es, d, rfl⟩ : ∃ es d, ds = es ++ [d] := ⟨ds.dropLast, ds.getLast hne, (List.dropLast_concat_getLast hne).symm⟩
      have hm : (es ++ [d]).map V.int = es.map V.int ++ [.int d] := by rw [List.map_append]; rfl
      rw [hm] at hd
      refine ⟨_, rfl, .inl ⟨rfl, _, sq_of (e1 _ _ hd)⟩, p, es.map V.int ++ [.int d], .int d, rfl, rfl, e1 _ _ hd, ?_, ?_⟩
      · rw [List.length_append]
        simp
      · have hd2 := hs d (List.mem_append_right _ (List.mem_singleton.mpr rfl))
        refine k _ _ ⟨d, rfl, hd2, ⟨es, ?_, fun x hx => hs x (List.mem_append_left _ hx), ?_⟩, but_mut (ex_but e1) rfl⟩
        · rw [List.dropLast_concat]
          exact upd_same
        · rw [List.length_append] at hlen
          omega
    · exact s_ret ev_c fun H2 e2 => k _ H2 ⟨0, rfl, by decide, ⟨ds, e2 _ _ (e1 _ _ hd), hs, hlen⟩, ex_but (e1.trans e2)⟩
theorem ep_draw {p : Addr} {i : Nat} {σ : L2.St} {H : Hp} (hi : σ[i]? = some (some (.ref p))) (hD : Drw p H) : EvP (tCall (sp_law_draw K) [] E0 (tCons (tVar i) tNil)) σ H (DP p H fun d => 0 ≤ d ∧ d < 1000) := fun Q q => ⟨_, hi, p, rfl, hD, q⟩
def sp_law_pick (K : PySem.W.Frag) : Sp := fun vs H Q _ => ∃ (p : Addr) (m : Int), vs = [.ref p, .int m] ∧ Drw p H ∧ 0 < m ∧ ∀ v H', DP p H (fun d => 0 ≤ d ∧ d < m) v H' → Q v H'
theorem ok_law_pick (T : Txt K mg) : FnOk P w K mg base CX0 2 T.f_law_pick T.d_law_pick ["draws", "many"] (sp_law_pick K) := by
  refine T.F_law_pick.ok sc_law_pick (fun vs H Q E h => ?_) (fun cdv A outer s H vs Q E hr h => ?_)
  · obtain ⟨p, m, rfl, _⟩ := h
    rfl
  · obtain ⟨p, m, rfl, hD, hm, k⟩ := h
    refine ⟨_, (pss_one (ps_ret (pe_op op_modN (pe_callTy call_int1 (by rfl) T.n_int (by decide +kernel) (pa_cons (pe_call (ok_law_draw T) (hr.mono (by decide)) (by rfl) T.g_law_draw T.F_law_draw.kp T.b_law_draw .nil pass0 (pa_cons (pv 0) pa_nil)) pa_nil)) (pv 1)))), ?_⟩
    refine ⟨_, rfl, p, rfl, hD, fun v H1 hv => ?_⟩
    obtain ⟨d, rfl, hd, hD1, b⟩ := hv
    refine .inl ⟨d, rfl, _, rfl, d, m, rfl, rfl, by omega, ?_⟩
    exact k _ H1 ⟨_, rfl, fmod_in d hm, hD1, b⟩
theorem ep_pick {p : Addr} {i : Nat} {m : Int} {σ : L2.St} {H : Hp} {tm : TE} (hi : σ[i]? = some (some (.ref p))) (hD : Drw p H) (hm : Ev tm σ H (.int m)) (h0 : 0 < m) : EvP (tCall (sp_law_pick K) [] E0 (tCons (tVar i) (tCons tm tNil))) σ H (DP p H fun d => 0 ≤ d ∧ d < m) := fun Q q =>
  ⟨_, hi, hm H (Ex.refl H) _ fun H2 e2 => ⟨p, m, rfl, hD.ex e2, h0, fun v H' ⟨d, hv, hd, hD', b⟩ => q v H' ⟨d, hv, hd, hD', (ex_but e2).trans b⟩⟩⟩
def sp_law_is_integer (K : PySem.W.Frag) : Sp := fun vs H Q _ => ∃ i : Int, vs = [.int i] ∧ RetV (.bl true) H Q
theorem v_law_is_integer {i : Int} {H : Hp} : SpV (sp_law_is_integer K) [.int i] H (.bl true) := fun _ _ _ q _ => ⟨i, rfl, q⟩
theorem ok_law_is_integer (T : Txt K mg) : FnOk P w K mg base CX0 1 T.f_law_is_integer T.d_law_is_integer ["actual"] (sp_law_is_integer K) := by
  refine T.F_law_is_integer.ok sc_law_is_integer (fun vs H Q E h => ?_) (fun cdv A outer s H vs Q E hr h => ?_)
  · obtain ⟨i, rfl, _⟩ := h
    rfl
  · obtain ⟨i, rfl, k⟩ := h
    refine ⟨_, (pss_one (ps_ret (pe_and (pe_callB call_isi (by rfl) T.n_isinstance (by decide +kernel) (pa_cons (pv 0) (pa_cons (pe_bltn (v := .ty "int") (by rfl) T.n_int (by decide +kernel) rfl) pa_nil))) (pe_one (pe_not (pe_callB call_isi (by rfl) T.n_isinstance (by decide +kernel) (pa_cons (pv 0) (pa_cons (pe_bltn (v := .ty "bool") (by rfl) T.n_bool (by decide +kernel) rfl) pa_nil)))))))), ?_⟩
    exact s_ret (v := .bl (true && !false)) (ev_andV (ev_cb (ea_cons (ev_var rfl) (ea_cons ev_c ea_nil)) rc_isInt) (fun _ => ev_notV (ev_cb (ea_cons (ev_var rfl) (ea_cons ev_c ea_nil)) rc_isIntB))) k
def sp_law_is_cells (K : PySem.W.Frag) : Sp := fun vs H Q _ => ∃ (p : Addr) (ns : List Int), vs = [.ref p] ∧ H p = some (.lst (ns.map V.int)) ∧ RetV (.bl true) H Q
theorem v_law_is_cells {p : Addr} {ns : List Int} {H : Hp} (h : H p = some (.lst (ns.map V.int))) : SpV (sp_law_is_cells K) [.ref p] H (.bl true) := fun _ e _ q _ => ⟨p, ns, rfl, e _ _ h, q⟩
theorem ok_law_is_cells (T : Txt K mg) : FnOk P w K mg base CX0 2 T.f_law_is_cells T.d_law_is_cells ["actual"] (sp_law_is_cells K) := by
  refine T.F_law_is_cells.ok sc_law_is_cells (fun vs H Q E h => ?_) (fun cdv A outer s H vs Q E hr h => ?_)
  · obtain ⟨p, ns, rfl, _⟩ := h
    rfl
  · obtain ⟨p, ns, rfl, hp, k⟩ := h
    refine ⟨_, (pss_cons (ps_if (pt_not (pt_val (pe_callB call_isi (by rfl) T.n_isinstance (by decide +kernel) (pa_cons (pv 0) (pa_cons (pe_bltn (v := .ty "list") (by rfl) T.n_list (by decide +kernel) rfl) pa_nil))))) (pss_one (ps_ret pe_bl)) pss_nil)
        (pss_cons (ps_for PassesOwn.never rfl (pi_list (pv 0)) (pg_name (i := 1) sc_law_is_cells.nd rfl (Or.inl rfl)) (pss_one (ps_if (pt_not (pt_val (pe_call (ok_law_is_integer T) (hr.mono (by decide)) (by rfl) T.g_law_is_integer T.F_law_is_integer.kp T.b_law_is_integer .nil pass0 (pa_cons (pv 1) pa_nil)))) (pss_one (ps_ret pe_bl)) pss_nil)))
        (pss_one (ps_ret pe_bl)))), ?_⟩
    refine q_when (b := !true) (et_not (et_B (ev_cb (ea_cons (ev_var rfl) (ea_cons ev_c ea_nil)) (rc_isList hp)))) (fun hb => nomatch hb) (fun _ H1 e1 => ?_)
    refine q_forLn (ev_var rfl) (sq_of (e1 _ _ hp)) (fun i σ' H' => Ex H H' ∧ ∃ y, σ' = [some (.ref p), y]) (fun H2 e2 => ⟨e1.trans e2, none, rfl⟩) (fun i σ' H' _ hq => sq_of (hq.1 _ _ hp)) ?_ ?_
    · rintro i x σ' H' hx ⟨e2, y, rfl⟩
      obtain ⟨c, hc, rfl⟩ := map_at hx
      exact s_when (b := !true) (et_not (et_B (ev_call (ea_cons (ev_var rfl) ea_nil) v_law_is_integer))) (fun hb => nomatch hb) (fun _ H3 e3 => ⟨e2.trans e3, _, rfl⟩)
    · rintro σ' H' ⟨e2, y, rfl⟩
      exact s_ret ev_c fun H3 e3 => k H3 (e2.trans e3)

/-! ### digits read -/
def sp_is_digit (K : PySem.W.Frag) : Sp := fun vs H Q _ => ∃ c : Int, vs = [.int c] ∧ RetV (.bl (isDg c)) H Q
theorem v_is_digit {c : Int} {H : Hp} : SpV (sp_is_digit K) [.int c] H (.bl (isDg c)) := fun _ _ _ q _ => ⟨c, rfl, q⟩
theorem ok_is_digit (T : Txt K mg) : FnOk P w K mg base CX0 1 T.f_is_digit T.d_is_digit ["code"] (sp_is_digit K) := by
  refine T.F_is_digit.ok sc_is_digit (fun vs H Q E h => ?_) (fun cdv A outer s H vs Q E hr h => ?_)
  · obtain ⟨c, rfl, _⟩ := h
    rfl
  · obtain ⟨c, rfl, k⟩ := h
    refine ⟨_, (pss_one (ps_ret (pe_chain op_le op_le pe_int (pv 0) pe_int))), ?_⟩
    exact s_ret (by walk_at "ev") k
def sp_with_digit (K : PySem.W.Frag) : Sp := fun vs H Q _ => ∃ n c : Int, vs = [.int n, .int c] ∧ RetV (.int (10 * n + c - 48)) H Q
theorem v_with_digit {n c : Int} {H : Hp} : SpV (sp_with_digit K) [.int n, .int c] H (.int (10 * n + c - 48)) := fun _ _ _ q _ => ⟨n, c, rfl, q⟩
theorem ok_with_digit (T : Txt K mg) : FnOk P w K mg base CX0 1 T.f_with_digit T.d_with_digit ["number", "code"] (sp_with_digit K) := by
  refine T.F_with_digit.ok sc_with_digit (fun vs H Q E h => ?_) (fun cdv A outer s H vs Q E hr h => ?_)
  · obtain ⟨n, c, rfl, _⟩ := h
    rfl
  · obtain ⟨n, c, rfl, k⟩ := h
    refine ⟨_, (pss_one (ps_ret (pe_op op_sub (pe_op op_add (pe_op op_mul pe_int (pv 0)) (pv 1)) pe_int))), ?_⟩
    exact s_ret (ev_op (ev_op (ev_op ev_c (ev_var rfl) (rv_mulL (by decide))) (ev_var rfl) rv_I0) ev_c rv_I0) k

/-! ### the reader's state -/
structure SS where
  m : Int
  r : Int
  w : Bool
  f : Bool
  cs : List Int
def FF (s : SS) (q : Addr) : List (Str × V) := [("m", .int s.m), ("r", .int s.r), ("waiting", .bl s.w), ("finished", .bl s.f), ("_cells", .ref q)]
def emitS (s : SS) (op arg su : Int) : SS := ⟨s.m + 1, 0, s.w, s.f, s.cs ++ [s.m, op, arg, su]⟩
def signS (s : SS) (c : Int) : SS := if c = 39 then ⟨s.m, s.r, true, s.f, s.cs⟩ else if c = 58 then ⟨s.r, 0, s.w, s.f, s.cs⟩ else if c = 62 then emitS s 32 0 s.r else emitS s c s.r (s.m + 1)
def stepS (s : SS) (c : Int) : SS := if c < 0 then ⟨s.m, s.r, false, true, s.cs⟩ else if s.w = true then emitS ⟨s.m, s.r, false, s.f, s.cs⟩ 35 c (s.m + 1) else if isDg c = true then ⟨s.m, 10 * s.r + c - 48, s.w, s.f, s.cs⟩ else if 32 < c then signS s c else s
def feedS (s : SS) (c : Int) : SS := if s.f = true then s else stepS s c
def s0 : SS := ⟨0, 0, false, false, []⟩
def runS (l : List Int) : SS := l.foldl feedS s0
theorem feedS_len (s : SS) (c : Int) : (feedS s c).cs.length ≤ s.cs.length + 4 := by
  unfold feedS stepS signS emitS
  repeat' split
  all_goals simp
theorem run_len (l : List Int) (s : SS) : (l.foldl feedS s).cs.length ≤ s.cs.length + 4 * l.length := by
  induction l generalizing s with
  | nil => simp
  | cons c r ih =>
    have h1 := ih (feedS s c)
    have h2 := feedS_len s c
    rw [List.foldl_cons, List.length_cons]
    omega
/-- a reader of state s stands at x, its cells at q -/
def RA (C : Addr) (H : Hp) (x q : Addr) (s : SS) : Prop := (∃ dx, H x = some (.ins C dx (FF s q))) ∧ H q = some (.lst (s.cs.map V.int))
theorem RA.ne {C x q : Addr} {H : Hp} {s : SS} (h : RA C H x q s) : q ≠ x := by
  obtain ⟨⟨dx, h1⟩, h2⟩ := h
  exact ne_of h2 h1 (by intro z; cases z)
theorem RA.ex {C x q : Addr} {H H' : Hp} {s : SS} (h : RA C H x q s) (e : Ex H H') : RA C H' x q s := let ⟨⟨dx, h1⟩, h2⟩ := h; ⟨⟨dx, e _ _ h1⟩, e _ _ h2⟩
def But2 (x q : Addr) (H H' : Hp) : Prop := ∀ b o, b ≠ x → b ≠ q → H b = some o → H' b = some o
theorem But2.refl {x q : Addr} {H : Hp} : But2 x q H H := fun _ _ _ _ h => h
theorem But2.trans {x q : Addr} {H H1 H2 : Hp} (a : But2 x q H H1) (b : But2 x q H1 H2) : But2 x q H H2 := fun c o n1 n2 h => b c o n1 n2 (a c o n1 n2 h)
theorem ex_b2 {x q : Addr} {H H' : Hp} (e : Ex H H') : But2 x q H H' := fun b o _ _ h => e b o h
theorem but2_x {x q : Addr} {H : Hp} {o : HO} : But2 x q H (upd H x o) := fun b u n _ h => by rw [upd_ne n]; exact h
theorem but2_q {x q : Addr} {H : Hp} {o : HO} : But2 x q H (upd H q o) := fun b u _ n h => by rw [upd_ne n]; exact h
theorem ra_x {C dx x q : Addr} {H : Hp} {s : SS} (h : H q = some (.lst (s.cs.map V.int))) (n : q ≠ x) : RA C (upd H x (.ins C dx (FF s q))) x q s := ⟨⟨dx, upd_same⟩, by rw [upd_ne n]; exact h⟩
theorem put_m {s : SS} {q : Addr} {z : Int} : putF "m" (.int z) (FF s q) = FF ⟨z, s.r, s.w, s.f, s.cs⟩ q := rfl
theorem put_r {s : SS} {q : Addr} {z : Int} : putF "r" (.int z) (FF s q) = FF ⟨s.m, z, s.w, s.f, s.cs⟩ q := rfl
theorem put_w {s : SS} {q : Addr} {b : Bool} : putF "waiting" (.bl b) (FF s q) = FF ⟨s.m, s.r, b, s.f, s.cs⟩ q := rfl
theorem put_f {s : SS} {q : Addr} {b : Bool} : putF "finished" (.bl b) (FF s q) = FF ⟨s.m, s.r, s.w, b, s.cs⟩ q := rfl
theorem lk_m {s : SS} {q : Addr} : (FF s q).lookup ("m" : Str) = some (.int s.m) := rfl
theorem lk_r {s : SS} {q : Addr} : (FF s q).lookup ("r" : Str) = some (.int s.r) := rfl
theorem lk_w {s : SS} {q : Addr} : (FF s q).lookup ("waiting" : Str) = some (.bl s.w) := rfl
theorem lk_f {s : SS} {q : Addr} : (FF s q).lookup ("finished" : Str) = some (.bl s.f) := rfl
theorem lk_c {s : SS} {q : Addr} : (FF s q).lookup ("_cells" : Str) = some (.ref q) := rfl
theorem ff_len {s : SS} {q : Addr} : (FF s q).length < 1000 := by show 5 < 1000; decide
/-! ### its methods -/
def sp_ShortReader_init (K : PySem.W.Frag) (C : Addr) : Sp := fun vs H Q _ => ∃ x dx : Addr, vs = [.ref x] ∧ H x = some (.ins C dx []) ∧ ∀ q H', H q = none → RA C H' x q s0 → (∀ b o, b ≠ x → H b = some o → H' b = some o) → Q .non H'
theorem ok_ShortReader_init (T : Txt K mg) : FnOk P w K mg base CX0 1 T.f_ShortReader_init T.d_ShortReader_init ["self"] (sp_ShortReader_init K T.C_ShortReader) := by
  refine T.F_ShortReader_init.ok sc_ShortReader_init (fun vs H Q E h => ?_) (fun cdv A outer s H vs Q E hr h => ?_)
  · obtain ⟨x, dx, rfl, _⟩ := h
    rfl
  · obtain ⟨x, dx, rfl, hx, k⟩ := h
    refine ⟨_, (pss_cons (ps_fld (pv 0) pe_int rfl)
        (pss_cons (ps_fld (pv 0) pe_int rfl)
        (pss_cons (ps_fld (pv 0) pe_bl rfl)
        (pss_cons (ps_fld (pv 0) pe_bl rfl)
        (pss_one (ps_fld (pv 0) (pe_lst pa_nil) rfl)))))), ?_⟩
    refine q_fld ev_c (ev_var rfl) hx T.cl_ShortReader T.na_ShortReader_m (by decide) (fun H1 e1 => ?_)
    refine q_fld ev_c (ev_var rfl) upd_same T.cl_ShortReader T.na_ShortReader_r (by show 1 < 1000; decide) (fun H2 e2 => ?_)
    refine q_fld ev_c (ev_var rfl) upd_same T.cl_ShortReader T.na_ShortReader_waiting (by show 2 < 1000; decide) (fun H3 e3 => ?_)
    refine q_fld ev_c (ev_var rfl) upd_same T.cl_ShortReader T.na_ShortReader_finished (by show 3 < 1000; decide) (fun H4 e4 => ?_)
    refine s_fldL (el_lst ea_nil (by decide)) (ev_var rfl) upd_same T.cl_ShortReader T.na_ShortReader_cells (by show 4 < 1000; decide) (fun q H5 hq e5 h5 => ?_)
    have hb : ∀ b o, b ≠ x → H b = some o → H5 b = some o := fun b o n h => e5 _ _ (by rw [upd_ne n]; exact e4 _ _ (by rw [upd_ne n]; exact e3 _ _ (by rw [upd_ne n]; exact e2 _ _ (by rw [upd_ne n]; exact e1 _ _ h))))
    have hqx : q ≠ x := fun e => by rw [e, upd_same] at hq; cases hq
    refine k q _ ?_ (ra_x (s := s0) h5 hqx) (fun b o n h => by rw [upd_ne n]; exact hb b o n h)
    cases e : H q with
    | none => rfl
    | some o =>
      rw [upd_ne hqx] at hq
      have z : H4 q = some o := e4 _ _ (by rw [upd_ne hqx]; exact e3 _ _ (by rw [upd_ne hqx]; exact e2 _ _ (by rw [upd_ne hqx]; exact e1 _ _ e)))
      rw [hq] at z
      cases z
def Goes (C : Addr) (x q : Addr) (H : Hp) (s' : SS) : V → Hp → Prop := fun v H' => v = .non ∧ RA C H' x q s' ∧ But2 x q H H'
theorem goes_bk {C x q : Addr} {H H1 : Hp} {s' : SS} {v : V} {H' : Hp} (h : Goes C x q H1 s' v H') (b : But2 x q H H1) : Goes C x q H s' v H' := ⟨h.1, h.2.1, b.trans h.2.2⟩
def sp_ShortReader_emit (K : PySem.W.Frag) (C : Addr) : Sp := fun vs H Q _ => ∃ (x q : Addr) (s : SS) (op arg su : Int), vs = [.ref x, .int op, .int arg, .int su] ∧ RA C H x q s ∧ s.cs.length ≤ 50000 ∧ ∀ v H', Goes C x q H (emitS s op arg su) v H' → Q v H'
theorem ok_ShortReader_emit (T : Txt K mg) : FnOk P w K mg base CX0 1 T.f_ShortReader_emit T.d_ShortReader_emit ["self", "operation", "argument", "successor"] (sp_ShortReader_emit K T.C_ShortReader) := by
  refine T.F_ShortReader_emit.ok sc_ShortReader_emit (fun vs H Q E h => ?_) (fun cdv A outer s H vs Q E hr h => ?_)
  · obtain ⟨x, q, s, op, arg, su, rfl, _⟩ := h
    rfl
  · obtain ⟨x, q, s, op, arg, su, rfl, hR, hz, k⟩ := h
    refine ⟨_, (pss_cons (ps_expr (pe_bm PySem.F.plainAttrs_list PySem.F.slot_list_extend PySem.F.type_list_extend mt_extend (pe_fld (pv 0) rfl) (pa_cons (pe_lst (pa_cons (pe_fld (pv 0) rfl) (pa_cons (pv 1) (pa_cons (pv 2) (pa_cons (pv 3) pa_nil))))) pa_nil)))
        (pss_cons (ps_fldaug (pv 0) pe_int in_add)
        (pss_one (ps_fld (pv 0) pe_int rfl)))), ?_⟩
    have hn := hR.ne
    obtain ⟨⟨dx, hx⟩, hq⟩ := hR
    have fld : ∀ {H1 : Hp}, Ex H H1 → Ev (tFld K (tVar 0) "m") (L2.start N_ShortReader_emit [.ref x, .int op, .int arg, .int su]) H1 (.int s.m) := fun e => ev_fld (ev_var rfl) (e _ _ hx) T.cl_ShortReader T.na_ShortReader_m lk_m
    refine q_ext hq (ev_fld (ev_var rfl) hx T.cl_ShortReader T.na_ShortReader_cells lk_c) (el_lst (vs := [.int s.m, .int op, .int arg, .int su]) (ea_cons (fld (Ex.refl H)) (ea_cons (ev_var rfl) (ea_cons (ev_var rfl) (ea_cons (ev_var rfl) ea_nil)))) (by show 4 ≤ 100000; decide)) (by rw [List.length_map]; show s.cs.length + 4 ≤ 100000; omega) (fun H1 e1 => ?_)
    refine q_fldaug (ev_var rfl) (by rw [upd_ne (Ne.symm hn)]; exact e1 _ _ hx) T.cl_ShortReader T.na_ShortReader_m lk_m (fun _ _ => ev_c) ff_len (fun H2 e2 => ?_)
    rw [put_m]
    refine s_fld ev_c (ev_var rfl) upd_same T.cl_ShortReader T.na_ShortReader_r ff_len (fun H3 e3 => ?_)
    rw [put_r]
    have hq3 : H3 q = some (.lst ((emitS s op arg su).cs.map V.int)) := by
      refine e3 _ _ ?_
      rw [upd_ne hn]
      refine e2 _ _ ?_
      rw [upd_same]
      unfold emitS
      rw [List.map_append]
      rfl
    refine k _ _ ⟨rfl, ra_x (s := emitS s op arg su) hq3 hn, ?_⟩
    exact (((ex_b2 e1).trans but2_q).trans ((ex_b2 e2).trans but2_x)).trans ((ex_b2 e3).trans but2_x)
theorem ep_emit {C x q : Addr} {s : SS} {op arg su : Int} {σ : L2.St} {H : Hp} {to : TE} {t : TA} (ho : Ev to σ H (.ref x)) (hR : RA C H x q s) (hz : s.cs.length ≤ 50000) (ht : EvA t σ H [.int op, .int arg, .int su]) : EvP (tMeth C "_emit" (sp_ShortReader_emit K C) [] E0 to t) σ H (Goes C x q H (emitS s op arg su)) := by
  obtain ⟨⟨dx, hx⟩, hq⟩ := id hR
  exact ep_meth ho hx (by rfl) ht fun H1 e1 Q k => ⟨x, q, s, op, arg, su, rfl, hR.ex e1, hz, fun v H' h => k v H' (goes_bk h (ex_b2 e1))⟩
def sp_ShortReader_take_sign (K : PySem.W.Frag) (C : Addr) : Sp := fun vs H Q _ => ∃ (x q : Addr) (s : SS) (c : Int), vs = [.ref x, .int c] ∧ RA C H x q s ∧ s.cs.length ≤ 50000 ∧ ∀ v H', Goes C x q H (signS s c) v H' → Q v H'
theorem ok_ShortReader_take_sign (T : Txt K mg) : FnOk P w K mg base CX0 2 T.f_ShortReader_take_sign T.d_ShortReader_take_sign ["self", "code"] (sp_ShortReader_take_sign K T.C_ShortReader) := by
  refine T.F_ShortReader_take_sign.ok sc_ShortReader_take_sign (fun vs H Q E h => ?_) (fun cdv A outer s H vs Q E hr h => ?_)
  · obtain ⟨x, q, s, c, rfl, _⟩ := h
    rfl
  · obtain ⟨x, q, s, c, rfl, hR, hz, k⟩ := h
    refine ⟨_, (pss_one (ps_if (pt_cmpR op_eq (pv 1) (pe_glob (v := .int 39) (by rfl) T.c_QUOTE ⟨_, rfl⟩) (nomark _)) (pss_one (ps_fld (pv 0) pe_bl rfl)) (pss_one (ps_if (pt_cmpR op_eq (pv 1) (pe_glob (v := .int 58) (by rfl) T.c_COLON ⟨_, rfl⟩) (nomark _)) (pss_cons (ps_fld (pv 0) (pe_fld (pv 0) rfl) rfl)
        (pss_one (ps_fld (pv 0) pe_int rfl))) (pss_one (ps_if (pt_cmpR op_eq (pv 1) (pe_glob (v := .int 62) (by rfl) T.c_GREATER ⟨_, rfl⟩) (nomark _)) (pss_one (ps_expr (pe_meth (pv 0) T.cl_ShortReader T.m_ShortReader_emit (ok_ShortReader_emit T) (hr.mono (by decide)) T.b_ShortReader_emit .nil pass0 (pa_cons (pe_glob (v := .int 32) (by rfl) T.c_NOP ⟨_, rfl⟩) (pa_cons pe_int (pa_cons (pe_fld (pv 0) rfl) pa_nil)))))) (pss_one (ps_expr (pe_meth (pv 0) T.cl_ShortReader T.m_ShortReader_emit (ok_ShortReader_emit T) (hr.mono (by decide)) T.b_ShortReader_emit .nil pass0 (pa_cons (pv 1) (pa_cons (pe_fld (pv 0) rfl) (pa_cons (pe_op op_add (pe_fld (pv 0) rfl) pe_int) pa_nil)))))))))))), ?_⟩
    have hn := hR.ne
    refine s_if (b := decide (c = 39)) (by walk_at "et") (fun hb H1 e1 => ?_) (fun hb H1 e1 => ?_)
    · have hs : signS s c = ⟨s.m, s.r, true, s.f, s.cs⟩ := by unfold signS; rw [if_pos (of_decide_eq_true hb)]
      rw [hs] at k
      obtain ⟨⟨dx, hx⟩, hq⟩ := hR.ex e1
      refine s_fld ev_c (ev_var rfl) hx T.cl_ShortReader T.na_ShortReader_waiting ff_len (fun H2 e2 => ?_)
      rw [put_w]
      exact k _ _ ⟨rfl, ra_x (s := ⟨s.m, s.r, true, s.f, s.cs⟩) (e2 _ _ hq) hn, (ex_b2 (e1.trans e2)).trans but2_x⟩
    have n39 : ¬ c = 39 := of_decide_eq_false hb
    refine s_if (b := decide (c = 58)) (by walk_at "et") (fun hb H2 e2 => ?_) (fun hb H2 e2 => ?_)
    · have hs : signS s c = ⟨s.r, 0, s.w, s.f, s.cs⟩ := by unfold signS; rw [if_neg n39, if_pos (of_decide_eq_true hb)]
      rw [hs] at k
      obtain ⟨⟨dx, hx⟩, hq⟩ := hR.ex (e1.trans e2)
      refine q_fld (ev_fld (ev_var rfl) hx T.cl_ShortReader T.na_ShortReader_r lk_r) (ev_var rfl) hx T.cl_ShortReader T.na_ShortReader_m ff_len (fun H3 e3 => ?_)
      rw [put_m]
      refine s_fld ev_c (ev_var rfl) upd_same T.cl_ShortReader T.na_ShortReader_r ff_len (fun H4 e4 => ?_)
      rw [put_r]
      refine k _ _ ⟨rfl, ra_x (s := ⟨s.r, 0, s.w, s.f, s.cs⟩) (e4 _ _ (by rw [upd_ne hn]; exact e3 _ _ hq)) hn, ((ex_b2 (e1.trans (e2.trans e3))).trans but2_x).trans ((ex_b2 e4).trans but2_x)⟩
    have n58 : ¬ c = 58 := of_decide_eq_false hb
    refine s_if (b := decide (c = 62)) (by walk_at "et") (fun hb H3 e3 => ?_) (fun hb H3 e3 => ?_)
    · have hs : signS s c = emitS s 32 0 s.r := by unfold signS; rw [if_neg n39, if_neg n58, if_pos (of_decide_eq_true hb)]
      rw [hs] at k
      have hR3 := hR.ex (e1.trans (e2.trans e3))
      obtain ⟨⟨dx, hx⟩, hq⟩ := id hR3
      exact s_dropP (ep_emit (ev_var rfl) hR3 hz (ea_cons ev_c (ea_cons ev_c (ea_cons (ev_fld (ev_var rfl) hx T.cl_ShortReader T.na_ShortReader_r lk_r) ea_nil)))) fun v H4 h => by
        rw [← h.1]
        exact k v H4 (goes_bk h (ex_b2 (e1.trans (e2.trans e3))))
    · have hs : signS s c = emitS s c s.r (s.m + 1) := by unfold signS; rw [if_neg n39, if_neg n58, if_neg (of_decide_eq_false hb)]
      rw [hs] at k
      have hR3 := hR.ex (e1.trans (e2.trans e3))
      obtain ⟨⟨dx, hx⟩, hq⟩ := id hR3
      exact s_dropP (ep_emit (ev_var rfl) hR3 hz (ea_cons (ev_var rfl) (ea_cons (ev_fld (ev_var rfl) hx T.cl_ShortReader T.na_ShortReader_r lk_r) (ea_cons (ev_op (ev_fld (ev_var rfl) hx T.cl_ShortReader T.na_ShortReader_m lk_m) ev_c rv_I0) ea_nil)))) fun v H4 h => by
        rw [← h.1]
        exact k v H4 (goes_bk h (ex_b2 (e1.trans (e2.trans e3))))
theorem ep_sign {C x q : Addr} {s : SS} {c : Int} {σ : L2.St} {H : Hp} {to : TE} {t : TA} (ho : Ev to σ H (.ref x)) (hR : RA C H x q s) (hz : s.cs.length ≤ 50000) (ht : EvA t σ H [.int c]) : EvP (tMeth C "_take_sign" (sp_ShortReader_take_sign K C) [] E0 to t) σ H (Goes C x q H (signS s c)) := by
  obtain ⟨⟨dx, hx⟩, hq⟩ := id hR
  exact ep_meth ho hx (by rfl) ht fun H1 e1 Q k => ⟨x, q, s, c, rfl, hR.ex e1, hz, fun v H' h => k v H' (goes_bk h (ex_b2 e1))⟩
def sp_ShortReader_take (K : PySem.W.Frag) (C : Addr) : Sp := fun vs H Q _ => ∃ (x q : Addr) (s : SS) (c : Int), vs = [.ref x, .int c] ∧ RA C H x q s ∧ s.cs.length ≤ 50000 ∧ ∀ v H', Goes C x q H (stepS s c) v H' → Q v H'
theorem ok_ShortReader_take (T : Txt K mg) : FnOk P w K mg base CX0 3 T.f_ShortReader_take T.d_ShortReader_take ["self", "code"] (sp_ShortReader_take K T.C_ShortReader) := by
  refine T.F_ShortReader_take.ok sc_ShortReader_take (fun vs H Q E h => ?_) (fun cdv A outer s H vs Q E hr h => ?_)
  · obtain ⟨x, q, s, c, rfl, _⟩ := h
    rfl
  · obtain ⟨x, q, s, c, rfl, hR, hz, k⟩ := h
    refine ⟨_, (pss_one (ps_if (pt_cmpR op_lt (pv 1) pe_int (nomark _)) (pss_cons (ps_fld (pv 0) pe_bl rfl)
        (pss_one (ps_fld (pv 0) pe_bl rfl))) (pss_one (ps_if (pt_val (pe_fld (pv 0) rfl)) (pss_cons (ps_fld (pv 0) pe_bl rfl)
        (pss_one (ps_expr (pe_meth (pv 0) T.cl_ShortReader T.m_ShortReader_emit (ok_ShortReader_emit T) (hr.mono (by decide)) T.b_ShortReader_emit .nil pass0 (pa_cons (pe_glob (v := .int 35) (by rfl) T.c_PUSH ⟨_, rfl⟩) (pa_cons (pv 1) (pa_cons (pe_op op_add (pe_fld (pv 0) rfl) pe_int) pa_nil))))))) (pss_one (ps_if (pt_val (pe_call (ok_is_digit T) (hr.mono (by decide)) (by rfl) T.g_is_digit T.F_is_digit.kp T.b_is_digit .nil pass0 (pa_cons (pv 1) pa_nil))) (pss_one (ps_fld (pv 0) (pe_call (ok_with_digit T) (hr.mono (by decide)) (by rfl) T.g_with_digit T.F_with_digit.kp T.b_with_digit .nil pass0 (pa_cons (pe_fld (pv 0) rfl) (pa_cons (pv 1) pa_nil))) rfl)) (pss_one (ps_if (pt_cmpR op_gt (pv 1) (pe_glob (v := .int 32) (by rfl) T.c_SPACE ⟨_, rfl⟩) (nomark _)) (pss_one (ps_expr (pe_meth (pv 0) T.cl_ShortReader T.m_ShortReader_take_sign (ok_ShortReader_take_sign T) (hr.mono (by decide)) T.b_ShortReader_take_sign .nil pass0 (pa_cons (pv 1) pa_nil)))) pss_nil)))))))), ?_⟩
    have hn := hR.ne
    refine s_if (b := decide (c < 0)) (by walk_at "et") (fun hb H1 e1 => ?_) (fun hb H1 e1 => ?_)
    · have hs : stepS s c = ⟨s.m, s.r, false, true, s.cs⟩ := by unfold stepS; rw [if_pos (of_decide_eq_true hb)]
      rw [hs] at k
      obtain ⟨⟨dx, hx⟩, hq⟩ := hR.ex e1
      refine q_fld ev_c (ev_var rfl) hx T.cl_ShortReader T.na_ShortReader_finished ff_len (fun H2 e2 => ?_)
      rw [put_f]
      refine s_fld ev_c (ev_var rfl) upd_same T.cl_ShortReader T.na_ShortReader_waiting ff_len (fun H3 e3 => ?_)
      rw [put_w]
      exact k _ _ ⟨rfl, ra_x (s := ⟨s.m, s.r, false, true, s.cs⟩) (e3 _ _ (by rw [upd_ne hn]; exact e2 _ _ hq)) hn, ((ex_b2 (e1.trans e2)).trans but2_x).trans ((ex_b2 e3).trans but2_x)⟩
    have n0 : ¬ c < 0 := of_decide_eq_false hb
    obtain ⟨⟨dx, hx⟩, hq⟩ := hR.ex e1
    refine s_if (b := s.w) (et_B (ev_fld (ev_var rfl) hx T.cl_ShortReader T.na_ShortReader_waiting lk_w)) (fun hw H2 e2 => ?_) (fun hw H2 e2 => ?_)
    · have hs : stepS s c = emitS ⟨s.m, s.r, false, s.f, s.cs⟩ 35 c (s.m + 1) := by unfold stepS; rw [if_neg n0, if_pos hw]
      rw [hs] at k
      refine q_fld ev_c (ev_var rfl) (e2 _ _ hx) T.cl_ShortReader T.na_ShortReader_waiting ff_len (fun H3 e3 => ?_)
      rw [put_w]
      have hR3 : RA T.C_ShortReader (upd H3 x (.ins T.C_ShortReader dx (FF ⟨s.m, s.r, false, s.f, s.cs⟩ q))) x q ⟨s.m, s.r, false, s.f, s.cs⟩ := ra_x (e3 _ _ (e2 _ _ hq)) hn
      obtain ⟨⟨dy, hy⟩, hq3⟩ := id hR3
      exact s_dropP (ep_emit (ev_var rfl) hR3 hz (ea_cons ev_c (ea_cons (ev_var rfl) (ea_cons (ev_op (ev_fld (ev_var rfl) hy T.cl_ShortReader T.na_ShortReader_m lk_m) ev_c rv_I0) ea_nil)))) fun v H4 h => by
        rw [← h.1]
        exact k v H4 (goes_bk h ((ex_b2 (e1.trans (e2.trans e3))).trans but2_x))
    have hw' : ¬ s.w = true := by rw [hw]; exact Bool.false_ne_true
    refine s_if (b := isDg c) (et_B (ev_call (ea_cons (ev_var rfl) ea_nil) v_is_digit)) (fun hd H3 e3 => ?_) (fun hd H3 e3 => ?_)
    · have hs : stepS s c = ⟨s.m, 10 * s.r + c - 48, s.w, s.f, s.cs⟩ := by unfold stepS; rw [if_neg n0, if_neg hw', if_pos hd]
      rw [hs] at k
      have hx3 := e3 _ _ (e2 _ _ hx)
      refine s_fld (ev_call (ea_cons (ev_fld (ev_var rfl) hx3 T.cl_ShortReader T.na_ShortReader_r lk_r) (ea_cons (ev_var rfl) ea_nil)) v_with_digit) (ev_var rfl) hx3 T.cl_ShortReader T.na_ShortReader_r ff_len (fun H4 e4 => ?_)
      rw [put_r]
      exact k _ _ ⟨rfl, ra_x (s := ⟨s.m, 10 * s.r + c - 48, s.w, s.f, s.cs⟩) (e4 _ _ (e3 _ _ (e2 _ _ hq))) hn, (ex_b2 (e1.trans (e2.trans (e3.trans e4)))).trans but2_x⟩
    have hd' : ¬ isDg c = true := by rw [hd]; exact Bool.false_ne_true
    refine s_when (b := decide (32 < c)) (by walk_at "et") (fun hb H4 e4 => ?_) (fun hb H4 e4 => ?_)
    · have hs : stepS s c = signS s c := by unfold stepS; rw [if_neg n0, if_neg hw', if_neg hd', if_pos (of_decide_eq_true hb)]
      rw [hs] at k
      exact s_dropP (ep_sign (ev_var rfl) (hR.ex (e1.trans (e2.trans (e3.trans e4)))) hz (ea_cons (ev_var rfl) ea_nil)) fun v H5 h => by
        rw [← h.1]
        exact k v H5 (goes_bk h (ex_b2 (e1.trans (e2.trans (e3.trans e4)))))
    · have hs : stepS s c = s := by unfold stepS; rw [if_neg n0, if_neg hw', if_neg hd', if_neg (of_decide_eq_false hb)]
      rw [hs] at k
      exact k _ _ ⟨rfl, hR.ex (e1.trans (e2.trans (e3.trans e4))), ex_b2 (e1.trans (e2.trans (e3.trans e4)))⟩
theorem ep_take {C x q : Addr} {s : SS} {c : Int} {σ : L2.St} {H : Hp} {to : TE} {t : TA} (ho : Ev to σ H (.ref x)) (hR : RA C H x q s) (hz : s.cs.length ≤ 50000) (ht : EvA t σ H [.int c]) : EvP (tMeth C "_take" (sp_ShortReader_take K C) [] E0 to t) σ H (Goes C x q H (stepS s c)) := by
  obtain ⟨⟨dx, hx⟩, hq⟩ := id hR
  exact ep_meth ho hx (by rfl) ht fun H1 e1 Q k => ⟨x, q, s, c, rfl, hR.ex e1, hz, fun v H' h => k v H' (goes_bk h (ex_b2 e1))⟩
def sp_ShortReader_feed (K : PySem.W.Frag) (C : Addr) : Sp := fun vs H Q _ => ∃ (x q a : Addr) (s : SS) (ns : List Int), vs = [.ref x, .ref a] ∧ RA C H x q s ∧ a ≠ x ∧ a ≠ q ∧ H a = some (.lst (ns.map V.int)) ∧ s.cs.length + 4 * ns.length ≤ 50000 ∧ ∀ v H', Goes C x q H (ns.foldl feedS s) v H' → Q v H'
theorem ok_ShortReader_feed (T : Txt K mg) : FnOk P w K mg base CX0 4 T.f_ShortReader_feed T.d_ShortReader_feed ["self", "codes"] (sp_ShortReader_feed K T.C_ShortReader) := by
  refine T.F_ShortReader_feed.ok sc_ShortReader_feed (fun vs H Q E h => ?_) (fun cdv A outer s H vs Q E hr h => ?_)
  · obtain ⟨x, q, a, s, ns, rfl, _⟩ := h
    rfl
  · obtain ⟨x, q, a, s, ns, rfl, hR, nax, naq, hA, hz, k⟩ := h
    refine ⟨_, (pss_one (ps_for PassesOwn.never rfl (pi_list (pv 1)) (pg_name (i := 2) sc_ShortReader_feed.nd rfl (Or.inl rfl)) (pss_one (ps_if (pt_not (pt_val (pe_fld (pv 0) rfl))) (pss_one (ps_expr (pe_meth (pv 0) T.cl_ShortReader T.m_ShortReader_take (ok_ShortReader_take T) (hr.mono (by decide)) T.b_ShortReader_take .nil pass0 (pa_cons (pv 2) pa_nil)))) pss_nil)))), ?_⟩
    refine s_forLn (ev_var rfl) (sq_of hA) (fun i σ' H' => RA T.C_ShortReader H' x q ((ns.take i).foldl feedS s) ∧ But2 x q H H' ∧ ∃ y, σ' = [some (.ref x), some (.ref a), y]) ?_ ?_ ?_ ?_
    · intro H1 e1
      exact ⟨hR.ex e1, ex_b2 e1, none, rfl⟩
    · rintro i σ' H' _ ⟨_, b, _⟩
      exact sq_of (b _ _ nax naq hA)
    · rintro i c' σ' H' hx ⟨hR1, b1, y, rfl⟩
      obtain ⟨c, hc, rfl⟩ := map_at hx
      have hlen := run_len (ns.take i) s
      rw [List.length_take] at hlen
      have hi := (List.getElem?_eq_some_iff.mp hc).1
      rw [foldl_snoc hc]
      generalize (ns.take i).foldl feedS s = s1 at hR1 hlen
      obtain ⟨⟨dx, hx1⟩, hq1⟩ := id hR1
      refine s_when (b := !s1.f) (et_not (et_B (ev_fld (ev_var rfl) hx1 T.cl_ShortReader T.na_ShortReader_finished lk_f))) (fun hb H2 e2 => ?_) (fun hb H2 e2 => ?_)
      · have hs : feedS s1 c = stepS s1 c := by unfold feedS; rw [if_neg (by simpa using hb)]
        rw [hs]
        exact s_dropP (ep_take (ev_var rfl) (hR1.ex e2) (by omega) (ea_cons (ev_var rfl) ea_nil)) fun v H3 h => ⟨h.2.1, b1.trans ((ex_b2 e2).trans h.2.2), _, rfl⟩
      · have hs : feedS s1 c = s1 := by unfold feedS; rw [if_pos (by simpa using hb)]
        rw [hs]
        exact ⟨hR1.ex e2, b1.trans (ex_b2 e2), _, rfl⟩
    · rintro σ' H' ⟨hR1, b1, y, rfl⟩
      rw [List.length_map, List.take_length] at hR1
      exact k _ _ ⟨rfl, hR1, b1⟩
theorem ep_feed {C x q a : Addr} {s : SS} {ns : List Int} {σ : L2.St} {H : Hp} {to : TE} {t : TA} (ho : Ev to σ H (.ref x)) (hR : RA C H x q s) (nx : a ≠ x) (nq : a ≠ q) (hA : H a = some (.lst (ns.map V.int))) (hz : s.cs.length + 4 * ns.length ≤ 50000) (ht : EvA t σ H [.ref a]) : EvP (tMeth C "feed" (sp_ShortReader_feed K C) [] E0 to t) σ H (Goes C x q H (ns.foldl feedS s)) := by
  obtain ⟨⟨dx, hx⟩, hq⟩ := id hR
  exact ep_meth ho hx (by rfl) ht fun H1 e1 Q k => ⟨x, q, a, s, ns, rfl, hR.ex e1, nx, nq, e1 _ _ hA, hz, fun v H' h => k v H' (goes_bk h (ex_b2 e1))⟩
def sp_ShortReader_image (K : PySem.W.Frag) (C : Addr) : Sp := fun vs H Q _ => ∃ (x q : Addr) (s : SS), vs = [.ref x] ∧ RA C H x q s ∧ RetL (s.cs.map V.int) H Q
theorem ok_ShortReader_image (T : Txt K mg) : FnOk P w K mg base CX0 1 T.f_ShortReader_image T.d_ShortReader_image ["self"] (sp_ShortReader_image K T.C_ShortReader) := by
  refine T.F_ShortReader_image.ok sc_ShortReader_image (fun vs H Q E h => ?_) (fun cdv A outer s H vs Q E hr h => ?_)
  · obtain ⟨x, q, s, rfl, _⟩ := h
    rfl
  · obtain ⟨x, q, s, rfl, hR, k⟩ := h
    refine ⟨_, (pss_one (ps_ret (pe_callTy call_list_of (by rfl) T.n_list (by decide +kernel) (pa_cons (pe_fld (pv 0) rfl) pa_nil)))), ?_⟩
    obtain ⟨⟨dx, hx⟩, hq⟩ := id hR
    exact s_retL (el_list (ev_fld (ev_var rfl) hx T.cl_ShortReader T.na_ShortReader_cells lk_c) (sq_of hq)) k
theorem el_image {C x q : Addr} {s : SS} {σ : L2.St} {H : Hp} {to : TE} (ho : Ev to σ H (.ref x)) (hR : RA C H x q s) : EvL (tMeth C "image" (sp_ShortReader_image K C) [] E0 to tNil) σ H (s.cs.map V.int) := fun H1 e Q k => by
  obtain ⟨⟨dx, hx⟩, hq⟩ := id hR
  exact ho H1 e _ fun H2 e2 => ⟨x, dx, _, rfl, e2 _ _ (e _ _ hx), by rfl, x, q, s, rfl, hR.ex (e.trans e2), fun p H3 hp e3 h3 => k p H3 (fresh_back e2 hp) (e2.trans e3) h3⟩
def sp_translate_short (K : PySem.W.Frag) : Sp := fun vs H Q _ => ∃ (a : Addr) (ns : List Int), vs = [.ref a] ∧ H a = some (.lst (ns.map V.int)) ∧ ns.length ≤ 5000 ∧ RetL ((runS ns).cs.map V.int) H Q
theorem l_translate_short {a : Addr} {ns : List Int} {H : Hp} (h : H a = some (.lst (ns.map V.int))) (hl : ns.length ≤ 5000) : SpL (sp_translate_short K) [.ref a] H ((runS ns).cs.map V.int) := fun _ e _ q _ => ⟨a, ns, rfl, e _ _ h, hl, q⟩
theorem ok_translate_short (T : Txt K mg) : FnOk P w K mg base CX0 5 T.f_translate_short T.d_translate_short ["codes"] (sp_translate_short K) := by
  refine T.F_translate_short.ok sc_translate_short (fun vs H Q E h => ?_) (fun cdv A outer s H vs Q E hr h => ?_)
  · obtain ⟨a, ns, rfl, _⟩ := h
    rfl
  · obtain ⟨a, ns, rfl, hA, hl, k⟩ := h
    refine ⟨_, (pss_cons (ps_set (i := 1) sc_translate_short.nd rfl (Or.inl rfl) (pe_make0 T.m_ShortReader_init (ok_ShortReader_init T) (hr.mono (by decide)) (by rfl) T.gc_ShortReader T.b_ShortReader_init .nil pass0))
        (pss_cons (ps_expr (pe_meth (pv 1) T.cl_ShortReader T.m_ShortReader_feed (ok_ShortReader_feed T) (hr.mono (by decide)) T.b_ShortReader_feed .nil pass0 (pa_cons (pv 0) pa_nil)))
        (pss_one (ps_ret (pe_meth0 (pv 1) T.cl_ShortReader T.m_ShortReader_image (ok_ShortReader_image T) (hr.mono (by decide)) T.b_ShortReader_image .nil pass0))))), ?_⟩
    -- reader = ShortReader()
    refine q_asgP (P := fun v H' => ∃ x q, v = .ref x ∧ H x = none ∧ H q = none ∧ RA T.C_ShortReader H' x q s0 ∧ Ex H H') (fun Q k1 => fun x dx nx ndx nex => ⟨x, dx, rfl, upd_same, fun q H1 hq hR kp => ⟨rfl, k1 _ H1 ⟨x, q, rfl, nx, ?_, hR, ?_⟩⟩⟩) (fun v H1 hv => ?_)
    · have n1 : q ≠ x := fun e => by rw [e, upd_same] at hq; cases hq
      have n2 : q ≠ dx := fun e => by rw [e, upd_ne nex, upd_same] at hq; cases hq
      rw [upd_ne n1, upd_ne n2] at hq
      exact hq
    · intro b o e
      exact kp b o (ne_of_none e nx) (by rw [upd_ne (ne_of_none e nx), upd_ne (ne_of_none e ndx)]; exact e)
    obtain ⟨x, q, rfl, nx, nq, hR, e1⟩ := hv
    refine q_dropP (ep_feed (ev_var rfl) hR (ne_of_none hA nx) (ne_of_none hA nq) (e1 _ _ hA) (by show 0 + 4 * ns.length ≤ 50000; omega) (ea_cons (ev_var rfl) ea_nil)) (fun v H2 h2 => ?_)
    refine s_retL (el_image (ev_var rfl) h2.2.1) (fun p H3 hp e3 h3 => ?_)
    have b2 : Ex H H2 := fun b o e => h2.2.2 b o (ne_of_none e nx) (ne_of_none e nq) (e1 _ _ e)
    exact k p H3 (fresh_back b2 hp) (b2.trans e3) h3

/-! ### drawn codes of short -/
def sp_law_code (K : PySem.W.Frag) : Sp := fun vs H Q _ => ∃ p : Addr, vs = [.ref p] ∧ Drw p H ∧ ∀ v H', DP p H (fun d => 0 ≤ d) v H' → Q v H'
theorem ep_code {p : Addr} {i : Nat} {σ : L2.St} {H : Hp} (hi : σ[i]? = some (some (.ref p))) (hD : Drw p H) : EvP (tCall (sp_law_code K) [] E0 (tCons (tVar i) tNil)) σ H (DP p H fun d => 0 ≤ d) := fun Q q => ⟨_, hi, p, rfl, hD, q⟩
theorem ok_law_code (T : Txt K mg) : FnOk P w K mg base CX0 3 T.f_law_code T.d_law_code ["draws"] (sp_law_code K) := by
  refine T.F_law_code.ok sc_law_code (fun vs H Q E h => ?_) (fun cdv A outer s H vs Q E hr h => ?_)
  · obtain ⟨p, rfl, _⟩ := h
    rfl
  · obtain ⟨p, rfl, hD, k⟩ := h
    refine ⟨_, (pss_cons (ps_set (i := 1) sc_law_code.nd rfl (Or.inl rfl) (pe_call (ok_law_pick T) (hr.mono (by decide)) (by rfl) T.g_law_pick T.F_law_pick.kp T.b_law_pick .nil pass0 (pa_cons (pv 0) (pa_cons pe_int pa_nil))))
        (pss_cons (ps_if (pt_cmpR op_lt (pv 1) pe_int (nomark _)) (pss_one (ps_ret (pe_op op_add pe_int (pe_call (ok_law_pick T) (hr.mono (by decide)) (by rfl) T.g_law_pick T.F_law_pick.kp T.b_law_pick .nil pass0 (pa_cons (pv 0) (pa_cons pe_int pa_nil)))))) pss_nil)
        (pss_cons (ps_if (pt_cmpR op_lt (pv 1) pe_int (nomark _)) (pss_one (ps_ret (pe_ix ix_list (pe_lst (pa_cons pe_int (pa_cons pe_int (pa_cons pe_int (pa_cons pe_int pa_nil))))) (pe_call (ok_law_pick T) (hr.mono (by decide)) (by rfl) T.g_law_pick T.F_law_pick.kp T.b_law_pick .nil pass0 (pa_cons (pv 0) (pa_cons pe_int pa_nil))) (fun _ _ => rfl)))) pss_nil)
        (pss_cons (ps_if (pt_cmpR op_lt (pv 1) pe_int (nomark _)) (pss_one (ps_ret (pe_ix ix_list (pe_lst (pa_cons pe_int (pa_cons pe_int (pa_cons pe_int (pa_cons pe_int (pa_cons pe_int (pa_cons pe_int (pa_cons pe_int (pa_cons pe_int pa_nil))))))))) (pe_call (ok_law_pick T) (hr.mono (by decide)) (by rfl) T.g_law_pick T.F_law_pick.kp T.b_law_pick .nil pass0 (pa_cons (pv 0) (pa_cons pe_int pa_nil))) (fun _ _ => rfl)))) pss_nil)
        (pss_cons (ps_if (pt_cmpR op_lt (pv 1) pe_int (nomark _)) (pss_one (ps_ret (pe_call (ok_law_pick T) (hr.mono (by decide)) (by rfl) T.g_law_pick T.F_law_pick.kp T.b_law_pick .nil pass0 (pa_cons (pv 0) (pa_cons pe_int pa_nil))))) pss_nil)
        (pss_one (ps_ret (pe_op op_add pe_int (pe_op op_mul (pe_op op_mul pe_int (pe_call (ok_law_draw T) (hr.mono (by decide)) (by rfl) T.g_law_draw T.F_law_draw.kp T.b_law_draw .nil pass0 (pa_cons (pv 0) pa_nil))) (pe_call (ok_law_draw T) (hr.mono (by decide)) (by rfl) T.g_law_draw T.F_law_draw.kp T.b_law_draw .nil pass0 (pa_cons (pv 0) pa_nil))))))))))), ?_⟩
    refine q_asgP (ep_pick rfl hD ev_c (by decide)) (fun v H1 hv => ?_)
    obtain ⟨kind, rfl, _, hD1, b1⟩ := hv
    refine q_when (b := decide (kind < 4)) (by walk_at "et") (fun hb H2 e2 => ?_) (fun hb H2 e2 => ?_)
    · exact s_retP (ep_opD (g := fun d => 48 + d) ev_c (fun H3 e3 => ep_pick rfl (hD1.ex (e2.trans e3)) ev_c (by decide)) (fun d H3 Q _ q => ⟨_, _, rfl, rfl, q⟩) (C1 := fun d => 0 ≤ d) (fun d hd => by omega)) (fun v H3 hv => k v H3 (dp_bk hv (b1.trans (ex_but e2)) fun _ h => h))
    refine q_when (b := decide (kind < 6)) (by walk_at "et") (fun hb H3 e3 => ?_) (fun hb H3 e3 => ?_)
    · have hD3 := hD1.ex (e2.trans e3)
      exact s_retP (ep_ixD (K := K) (ms := [58, 62, 39, 32]) (C1 := fun d => 0 ≤ d) (el_lst (ea_cons ev_c (ea_cons ev_c (ea_cons ev_c (ea_cons ev_c ea_nil)))) (by decide)) hD3 (fun H4 e4 => ep_pick rfl (hD3.ex e4) ev_c (by decide)) (by decide)) (fun v H4 hv => k v H4 (dp_bk hv (b1.trans (ex_but (e2.trans e3))) fun _ h => h))
    have hD3 := hD1.ex (e2.trans e3)
    have b3 := b1.trans (ex_but (e2.trans e3))
    refine q_when (b := decide (kind < 9)) (by walk_at "et") (fun hb H4 e4 => ?_) (fun hb H4 e4 => ?_)
    · have hD4 := hD3.ex e4
      exact s_retP (ep_ixD (K := K) (ms := [35, 43, 46, 63, 65, 97, 41, 36]) (C1 := fun d => 0 ≤ d) (el_lst (ea_cons ev_c (ea_cons ev_c (ea_cons ev_c (ea_cons ev_c (ea_cons ev_c (ea_cons ev_c (ea_cons ev_c (ea_cons ev_c ea_nil)))))))) (by decide)) hD4 (fun H5 e5 => ep_pick rfl (hD4.ex e5) ev_c (by decide)) (by decide)) (fun v H5 hv => k v H5 (dp_bk hv (b3.trans (ex_but e4)) fun _ h => h))
    refine q_when (b := decide (kind < 11)) (by walk_at "et") (fun hb H5 e5 => ?_) (fun hb H5 e5 => ?_)
    · exact s_retP (ep_pick rfl (hD3.ex (e4.trans e5)) ev_c (by decide)) (fun v H6 hv => k v H6 (dp_bk hv (b3.trans (ex_but (e4.trans e5))) fun _ h => h.1))
    · exact s_retP (ep_opD (g := fun d => 127 + d) (C := fun d => 0 ≤ d) ev_c (fun H6 e6 => ep_opDD (C := fun d => 0 ≤ d ∧ d < 1000000007000) (g := fun d e => d * e) (ep_opD (g := fun d => 1000003 * d) ev_c (fun H7 e7 => ep_draw rfl (hD3.ex (e4.trans (e5.trans (e6.trans e7))))) (fun d H3 Q _ q => ⟨_, _, rfl, rfl, .inl (by decide), q⟩) (fun d hd => by omega)) (fun H7 h7 => ep_draw rfl h7) (fun d e H3 Q hd _ q => ⟨_, _, rfl, rfl, .inl (by omega), q⟩) (fun d e hd he => Int.mul_nonneg hd.1 he.1)) (fun d H3 Q _ q => ⟨_, _, rfl, rfl, q⟩) (C1 := fun d => 0 ≤ d) (fun d hd => by omega))
        (fun v H6 hv => k v H6 (dp_bk hv (b3.trans (ex_but (e4.trans e5))) fun _ h => h))
/-- a new list of at most n ints; the draws have turned -/
def NewL (p : Addr) (H : Hp) (n : Nat) : V → Hp → Prop := fun v H' => ∃ (q : Addr) (cs : List Int), v = .ref q ∧ H q = none ∧ But p H H' ∧ Drw p H' ∧ H' q = some (.lst (cs.map V.int)) ∧ cs.length ≤ n
def sp_law_codes (K : PySem.W.Frag) : Sp := fun vs H Q _ => ∃ (p : Addr) (m : Nat), vs = [.ref p, .int (m : Int)] ∧ Drw p H ∧ m ≤ 500 ∧ ∀ v H', NewL p H m v H' → Q v H'
theorem ep_codes {p : Addr} {i m : Nat} {σ : L2.St} {H : Hp} (hi : σ[i]? = some (some (.ref p))) (hD : Drw p H) (hm : m ≤ 500) : EvP (tCall (sp_law_codes K) [] E0 (tCons (tVar i) (tCons (tC (.int (m : Int))) tNil))) σ H (NewL p H m) := fun Q q => ⟨_, hi, p, m, rfl, hD, hm, q⟩
theorem ok_law_codes (T : Txt K mg) : FnOk P w K mg base CX0 4 T.f_law_codes T.d_law_codes ["draws", "many"] (sp_law_codes K) := by
  refine T.F_law_codes.ok sc_law_codes (fun vs H Q E h => ?_) (fun cdv A outer s H vs Q E hr h => ?_)
  · obtain ⟨p, m, rfl, _⟩ := h
    rfl
  · obtain ⟨p, m, rfl, hD1, hm, k⟩ := h
    refine ⟨_, (pss_cons (ps_set (i := 2) sc_law_codes.nd rfl (Or.inl rfl) (pe_lst pa_nil))
        (pss_cons (ps_for PassesOwn.never rfl (pi_range1 (by rfl) T.n_range (pa_cons (pe_call (ok_law_pick T) (hr.mono (by decide)) (by rfl) T.g_law_pick T.F_law_pick.kp T.b_law_pick .nil pass0 (pa_cons (pv 0) (pa_cons (pe_op op_add (pv 1) pe_int) pa_nil))) pa_nil)) (pg_name (i := 3) sc_law_codes.nd rfl (Or.inl rfl)) (pss_one (ps_expr (pe_bm PySem.F.plainAttrs_list PySem.F.slot_list_append PySem.F.type_list_append mt_append (pv 2) (pa_cons (pe_call (ok_law_code T) (hr.mono (by decide)) (by rfl) T.g_law_code T.F_law_code.kp T.b_law_code .nil pass0 (pa_cons (pv 0) pa_nil)) pa_nil)))))
        (pss_cut (ps_if (PW.pt (pw_and (pt_cmpR op_eq (pe_call (ok_law_pick T) (hr.mono (by decide)) (by rfl) T.g_law_pick T.F_law_pick.kp T.b_law_pick .nil pass0 (pa_cons (pv 0) (pa_cons pe_int pa_nil))) pe_int (nomark _)) (pw_and1 (pt_truth (pv 2) (by intro _; rfl))))) (pss_one (ps_asg (pe_op op_sub (pe_op op_sub pe_int pe_int) (pe_call (ok_law_draw T) (hr.mono (by decide)) (by rfl) T.g_law_draw T.F_law_draw.kp T.b_law_draw .nil pass0 (pa_cons (pv 0) pa_nil))) (pg_sub (pv 2) (pe_call (ok_law_pick T) (hr.mono (by decide)) (by rfl) T.g_law_pick T.F_law_pick.kp T.b_law_pick .nil pass0 (pa_cons (pv 0) (pa_cons (pe_callB call_len_seq (by rfl) T.n_len (by decide +kernel) (pa_cons (pv 2) pa_nil)) pa_nil))) set_list))) pss_nil)
        (pss_one (ps_ret (pv 2)))))), ?_⟩
    refine q_asgL (el_lst ea_nil (by decide)) (fun q H2 hq e2 d2 => ?_)
    have hqp : q ≠ p := fun e => by
      obtain ⟨ds, h, _⟩ := hD1
      rw [e, h] at hq
      cases hq
    have hmut : ∀ {H3 : Hp} {o : HO}, But p H H3 → But p H (upd H3 q o) := fun b c u n e => by
      rw [upd_ne (ne_of_none e hq)]
      exact b _ _ n e
    refine q_forRP (ep_pick rfl (hD1.ex e2) (ev_op (ev_var rfl) ev_c rv_I0) (by omega)) (fun v H3 hv => ?_)
    obtain ⟨n, rfl, hn, hD3, b3⟩ := hv
    refine ⟨n.toNat, by rw [Int.toNat_of_nonneg hn.1], by omega, fun i σ' H' => Drw p H' ∧ But p H H' ∧ ∃ (cs : List Int) (y : Option V), H' q = some (.lst (cs.map V.int)) ∧ cs.length = i ∧ σ' = [some (.ref p), some (.int (m : Int)), some (.ref q), y], ?_, ?_, ?_⟩
    · exact ⟨hD3, (ex_but e2).trans b3, [], none, b3 _ _ hqp d2, rfl, rfl⟩
    · rintro i σ' H' hi ⟨hD, bb, cs, y, hc, hcl, rfl⟩
      refine s_appP (ev_var rfl) hc (by rw [List.length_map]; omega) (fun H4 e4 => (ep_code rfl (hD.ex e4)).imp (P' := DP p H' fun d => 0 ≤ d) fun v H5 hv => dp_bk hv (ex_but e4) fun _ h => h) (fun v H5 hv => ?_)
      obtain ⟨c, rfl, _, hD5, b5⟩ := hv
      refine ⟨b5 _ _ hqp hc, ?_, hmut (bb.trans b5), cs ++ [c], some (.int (i : Int)), ?_, by rw [List.length_append, hcl]; rfl, rfl⟩
      · obtain ⟨ds, h, s⟩ := hD5
        exact ⟨ds, by rw [upd_ne (Ne.symm hqp)]; exact h, s⟩
      · rw [List.map_append]
        exact upd_same
    · rintro σ' H4 ⟨hD4, bb, cs, y, hc4, hcl, rfl⟩
      have hcl : cs.length ≤ m := by omega
      refine q_cut (M := fun σ' H' => Drw p H' ∧ But p H H' ∧ ∃ (cs : List Int) (y : Option V), H' q = some (.lst (cs.map V.int)) ∧ cs.length ≤ m ∧ σ' = [some (.ref p), some (.int (m : Int)), some (.ref q), y]) ?_ ?_
      · refine s_whenP (P2 := fun b H' => Drw p H' ∧ But p H H' ∧ H' q = some (.lst (cs.map V.int)) ∧ (b = true → 0 < cs.length)) (etp_and (P1 := fun _ H' => Drw p H' ∧ But p H H' ∧ H' q = some (.lst (cs.map V.int))) (etp_cmpD (ep_pick rfl hD4 ev_c (by decide)) (fun _ => ev_c) (fun d H5 Q _ q => ⟨rfl, q _⟩) (fun b H5 hD5 b5 => ⟨hD5, bb.trans b5, b5 _ _ hqp hc4⟩))
          (fun H5 h5 Q k5 => etp_of (et_truL (K := K) (ev_var rfl) (sq_of h5.2.2)) Q fun b H6 hb => k5 b H6 ⟨h5.1.ex hb.2, h5.2.1.trans (ex_but hb.2), hb.2 _ _ h5.2.2, fun hbt => ?_⟩) (fun H5 h5 => ⟨h5.1, h5.2.1, h5.2.2, fun z => nomatch z⟩)) ?_ ?_
        · rw [hb.1] at hbt
          cases cs with
          | nil => cases hbt
          | cons x r => simp
        · rintro H5 ⟨hD5, bb5, hc5, hpos⟩
          have hpos := hpos rfl
          refine s_setP (l := q) (P1 := DP p H5 fun _ => True) (P2 := fun i H' => (∃ d : Int, i = .int d ∧ 0 ≤ d ∧ d < (cs.length : Int)) ∧ H' q = some (.lst (cs.map V.int)) ∧ Drw p H' ∧ But p H H') (ep_opD (g := fun d => 0 - 1 - d) (ev_op ev_c ev_c rv_I0) (fun H6 e6 => ep_draw rfl (hD5.ex e6)) (fun d H3 Q _ q => ⟨_, _, rfl, rfl, q⟩) (fun _ _ => trivial)) (fun _ => ev_var rfl) (fun v H6 hv H7 e7 => ?_) (fun v H6 H7 i H8 hv e7 hi => ?_)
          · obtain ⟨d, rfl, _, hD6, b6⟩ := hv
            have hc7 := e7 _ _ (b6 _ _ hqp hc5)
            have hlen := ev_len (K := K) (ta := tVar 2) (σ := [some (.ref p), some (.int (m : Int)), some (.ref q), y]) (H := H7) (ev_var rfl) (sq_of hc7)
            rw [List.length_map] at hlen
            exact (ep_pick rfl (hD6.ex e7) hlen (by omega)).imp fun v H8 ⟨d, hv, hd, hD8, b8⟩ => ⟨⟨d, hv, hd⟩, b8 _ _ hqp hc7, hD8, ((bb5.trans b6).trans (ex_but e7)).trans b8⟩
          · obtain ⟨d, rfl, _, hD6, b6⟩ := hv
            obtain ⟨⟨e, rfl, he⟩, hc8, hD8, b8⟩ := hi
            refine ⟨_, e, e.toNat, rfl, hc8, ixN_of he.1 (by rw [List.length_map]; exact he.2), ?_, hmut b8, cs.set e.toNat d, y, ?_, by rw [List.length_set]; exact hcl, rfl⟩
            · obtain ⟨ds, h, s⟩ := hD8
              exact ⟨ds, by rw [upd_ne (Ne.symm hqp)]; exact h, s⟩
            · rw [List.map_set]
              exact upd_same
        · rintro H5 ⟨hD5, bb5, hc5, _⟩
          exact ⟨hD5, bb5, cs, y, hc5, hcl, rfl⟩
      · rintro σ' H5 ⟨hD5, bb5, cs, y, hc5, hcl, rfl⟩
        exact s_ret (ev_var rfl) fun H6 e6 => k _ H6 ⟨q, cs, rfl, hq, bb5.trans (ex_but e6), hD5.ex e6, e6 _ _ hc5, hcl⟩
/-! ### the law's own reading -/
def KVs (s : SS) (q : Addr) : List (Key × V) := [(.inr "m", .int s.m), (.inr "r", .int s.r), (.inr "waiting", .bl s.w), (.inr "finished", .bl s.f), (.inr "cells", .ref q)]
def DA (H : Hp) (d q : Addr) (s : SS) : Prop := H d = some (.dK (KVs s q)) ∧ H q = some (.lst (s.cs.map V.int))
theorem DA.ne {d q : Addr} {H : Hp} {s : SS} (h : DA H d q s) : q ≠ d := ne_of h.2 h.1 (by intro z; cases z)
theorem DA.ex {d q : Addr} {H H' : Hp} {s : SS} (h : DA H d q s) (e : Ex H H') : DA H' d q s := ⟨e _ _ h.1, e _ _ h.2⟩
theorem da_d {d q : Addr} {H : Hp} {s : SS} (h : H q = some (.lst (s.cs.map V.int))) (n : q ≠ d) : DA (upd H d (.dK (KVs s q))) d q s := ⟨upd_same, by rw [upd_ne n]; exact h⟩
theorem kp_m {s : SS} {q : Addr} {z : Int} : putK (KVs s q) (.inr "m") (.int z) = KVs ⟨z, s.r, s.w, s.f, s.cs⟩ q := rfl
theorem kp_r {s : SS} {q : Addr} {z : Int} : putK (KVs s q) (.inr "r") (.int z) = KVs ⟨s.m, z, s.w, s.f, s.cs⟩ q := rfl
theorem kp_w {s : SS} {q : Addr} {b : Bool} : putK (KVs s q) (.inr "waiting") (.bl b) = KVs ⟨s.m, s.r, b, s.f, s.cs⟩ q := rfl
theorem kp_f {s : SS} {q : Addr} {b : Bool} : putK (KVs s q) (.inr "finished") (.bl b) = KVs ⟨s.m, s.r, s.w, b, s.cs⟩ q := rfl
theorem kl_m {s : SS} {q : Addr} : valV (KVs s q) (.inr "m") = some (.int s.m) := rfl
theorem kl_r {s : SS} {q : Addr} : valV (KVs s q) (.inr "r") = some (.int s.r) := rfl
theorem kl_w {s : SS} {q : Addr} : valV (KVs s q) (.inr "waiting") = some (.bl s.w) := rfl
theorem kl_f {s : SS} {q : Addr} : valV (KVs s q) (.inr "finished") = some (.bl s.f) := rfl
theorem kl_c {s : SS} {q : Addr} : valV (KVs s q) (.inr "cells") = some (.ref q) := rfl
theorem kv_len {s : SS} {q : Addr} : (KVs s q).length < 1000 := by show 5 < 1000; decide
def Steps (d q : Addr) (H : Hp) (s' : SS) : V → Hp → Prop := fun v H' => v = .non ∧ DA H' d q s' ∧ But2 d q H H'
theorem steps_bk {d q : Addr} {H H1 : Hp} {s' : SS} {v : V} {H' : Hp} (h : Steps d q H1 s' v H') (b : But2 d q H H1) : Steps d q H s' v H' := ⟨h.1, h.2.1, b.trans h.2.2⟩
def sp_law_emit (K : PySem.W.Frag) : Sp := fun vs H Q _ => ∃ (d q : Addr) (s : SS) (op arg su : Int), vs = [.ref d, .int op, .int arg, .int su] ∧ DA H d q s ∧ s.cs.length ≤ 50000 ∧ ∀ v H', Steps d q H (emitS s op arg su) v H' → Q v H'
theorem ok_law_emit (T : Txt K mg) : FnOk P w K mg base CX0 1 T.f_law_emit T.d_law_emit ["state", "op", "arg", "successor"] (sp_law_emit K) := by
  refine T.F_law_emit.ok sc_law_emit (fun vs H Q E h => ?_) (fun cdv A outer s H vs Q E hr h => ?_)
  · obtain ⟨d, q, s, op, arg, su, rfl, _⟩ := h
    rfl
  · obtain ⟨d, q, s, op, arg, su, rfl, hR, hz, k⟩ := h
    refine ⟨_, (pss_cons (ps_expr (pe_bm PySem.F.plainAttrs_list PySem.F.slot_list_extend PySem.F.type_list_extend mt_extend (pe_dget (hu_of hr) (pv 0) pe_str (fun _ _ => rfl)) (pa_cons (pe_lst (pa_cons (pe_dget (hu_of hr) (pv 0) pe_str (fun _ _ => rfl)) (pa_cons (pv 1) (pa_cons (pv 2) (pa_cons (pv 3) pa_nil))))) pa_nil)))
        (pss_cons (ps_dput (hu_of hr) (pv 0) pe_str (pe_op op_add (pe_dget (hu_of hr) (pv 0) pe_str (fun _ _ => rfl)) pe_int) rfl)
        (pss_one (ps_dput (hu_of hr) (pv 0) pe_str pe_int rfl)))), ?_⟩
    have hn := hR.ne
    obtain ⟨hx, hq⟩ := hR
    refine q_ext hq (ev_dget (ev_var rfl) ev_c hx kl_c) (el_lst (vs := [.int s.m, .int op, .int arg, .int su]) (ea_cons (ev_dget (ev_var rfl) ev_c hx kl_m) (ea_cons (ev_var rfl) (ea_cons (ev_var rfl) (ea_cons (ev_var rfl) ea_nil)))) (by show 4 ≤ 100000; decide)) (by rw [List.length_map]; show s.cs.length + 4 ≤ 100000; omega) (fun H1 e1 => ?_)
    have hx1 : (upd H1 q (.lst (s.cs.map V.int ++ [.int s.m, .int op, .int arg, .int su]))) d = some (.dK (KVs s q)) := by rw [upd_ne (Ne.symm hn)]; exact e1 _ _ hx
    refine q_dput (k := .inr "m") (ev_op (ev_dget (ev_var rfl) ev_c hx1 kl_m) ev_c rv_I0) (ev_var rfl) ev_c hx1 kv_len (fun H2 e2 => ?_)
    rw [kp_m]
    refine s_dput (k := .inr "r") ev_c (ev_var rfl) ev_c upd_same kv_len (fun H3 e3 => ?_)
    rw [kp_r]
    have hq3 : H3 q = some (.lst ((emitS s op arg su).cs.map V.int)) := by
      refine e3 _ _ ?_
      rw [upd_ne hn]
      refine e2 _ _ ?_
      rw [upd_same]
      unfold emitS
      rw [List.map_append]
      rfl
    exact k _ _ ⟨rfl, da_d (s := emitS s op arg su) hq3 hn, (((ex_b2 e1).trans but2_q).trans ((ex_b2 e2).trans but2_x)).trans ((ex_b2 e3).trans but2_x)⟩
theorem ep_lemit {d q : Addr} {s : SS} {op arg su : Int} {σ : L2.St} {H : Hp} {t : TA} (hR : DA H d q s) (hz : s.cs.length ≤ 50000) (ht : EvA t σ H [.ref d, .int op, .int arg, .int su]) : EvP (tCall (sp_law_emit K) [] E0 t) σ H (Steps d q H (emitS s op arg su)) :=
  ep_call ht fun H1 e1 Q k => ⟨d, q, s, op, arg, su, rfl, hR.ex e1, hz, fun v H' h => k v H' (steps_bk h (ex_b2 e1))⟩
def sp_law_step (K : PySem.W.Frag) : Sp := fun vs H Q _ => ∃ (d q : Addr) (s : SS) (c : Int), vs = [.ref d, .int c] ∧ DA H d q s ∧ s.cs.length ≤ 50000 ∧ ∀ v H', Steps d q H (feedS s c) v H' → Q v H'
theorem ok_law_step (T : Txt K mg) : FnOk P w K mg base CX0 2 T.f_law_step T.d_law_step ["state", "code"] (sp_law_step K) := by
  refine T.F_law_step.ok sc_law_step (fun vs H Q E h => ?_) (fun cdv A outer s H vs Q E hr h => ?_)
  · obtain ⟨d, q, s, c, rfl, _⟩ := h
    rfl
  · obtain ⟨d, q, s, c, rfl, hR, hz, k⟩ := h
    refine ⟨_, (pss_cons (ps_if (pt_val (pe_dget (hu_of hr) (pv 0) pe_str (fun _ _ => rfl))) (pss_one ps_retN) pss_nil)
        (pss_one (ps_if (pt_cmpR op_lt (pv 1) pe_int (nomark _)) (pss_cons (ps_dput (hu_of hr) (pv 0) pe_str pe_bl rfl)
        (pss_one (ps_dput (hu_of hr) (pv 0) pe_str pe_bl rfl))) (pss_one (ps_if (pt_val (pe_dget (hu_of hr) (pv 0) pe_str (fun _ _ => rfl))) (pss_cons (ps_dput (hu_of hr) (pv 0) pe_str pe_bl rfl)
        (pss_one (ps_expr (pe_call (ok_law_emit T) (hr.mono (by decide)) (by rfl) T.g_law_emit T.F_law_emit.kp T.b_law_emit .nil pass0 (pa_cons (pv 0) (pa_cons pe_int (pa_cons (pv 1) (pa_cons (pe_op op_add (pe_dget (hu_of hr) (pv 0) pe_str (fun _ _ => rfl)) pe_int) pa_nil)))))))) (pss_one (ps_if (pt_cmpR op_eq (pv 1) pe_int (nomark _)) (pss_one (ps_dput (hu_of hr) (pv 0) pe_str pe_bl rfl)) (pss_one (ps_if (pt_chain op_le op_le pe_int (pv 1) pe_int) (pss_one (ps_dput (hu_of hr) (pv 0) pe_str (pe_op op_sub (pe_op op_add (pe_op op_mul pe_int (pe_dget (hu_of hr) (pv 0) pe_str (fun _ _ => rfl))) (pv 1)) pe_int) rfl)) (pss_one (ps_if (pt_cmpR op_eq (pv 1) pe_int (nomark _)) (pss_cons (ps_dput (hu_of hr) (pv 0) pe_str (pe_dget (hu_of hr) (pv 0) pe_str (fun _ _ => rfl)) rfl)
        (pss_one (ps_dput (hu_of hr) (pv 0) pe_str pe_int rfl))) (pss_one (ps_if (pt_cmpR op_eq (pv 1) pe_int (nomark _)) (pss_one (ps_expr (pe_call (ok_law_emit T) (hr.mono (by decide)) (by rfl) T.g_law_emit T.F_law_emit.kp T.b_law_emit .nil pass0 (pa_cons (pv 0) (pa_cons pe_int (pa_cons pe_int (pa_cons (pe_dget (hu_of hr) (pv 0) pe_str (fun _ _ => rfl)) pa_nil))))))) (pss_one (ps_if (pt_cmpR op_gt (pv 1) pe_int (nomark _)) (pss_one (ps_expr (pe_call (ok_law_emit T) (hr.mono (by decide)) (by rfl) T.g_law_emit T.F_law_emit.kp T.b_law_emit .nil pass0 (pa_cons (pv 0) (pa_cons (pv 1) (pa_cons (pe_dget (hu_of hr) (pv 0) pe_str (fun _ _ => rfl)) (pa_cons (pe_op op_add (pe_dget (hu_of hr) (pv 0) pe_str (fun _ _ => rfl)) pe_int) pa_nil))))))) pss_nil))))))))))))))), ?_⟩
    have hn := hR.ne
    refine q_when (b := s.f) (et_B (ev_dget (ev_var rfl) ev_c hR.1 kl_f)) (fun hf H1 e1 => ?_) (fun hf H1 e1 => ?_)
    · have hs : feedS s c = s := by unfold feedS; rw [if_pos hf]
      rw [hs] at k
      exact k _ _ ⟨rfl, hR.ex e1, ex_b2 e1⟩
    have hs0 : feedS s c = stepS s c := by unfold feedS; rw [hf, if_neg Bool.false_ne_true]
    rw [hs0] at k
    refine s_if (b := decide (c < 0)) (by walk_at "et") (fun hb H2 e2 => ?_) (fun hb H2 e2 => ?_)
    · have hs : stepS s c = ⟨s.m, s.r, false, true, s.cs⟩ := by unfold stepS; rw [if_pos (of_decide_eq_true hb)]
      rw [hs] at k
      obtain ⟨hx, hq⟩ := hR.ex (e1.trans e2)
      refine q_dput (k := .inr "finished") ev_c (ev_var rfl) ev_c hx kv_len (fun H3 e3 => ?_)
      rw [kp_f]
      refine s_dput (k := .inr "waiting") ev_c (ev_var rfl) ev_c upd_same kv_len (fun H4 e4 => ?_)
      rw [kp_w]
      exact k _ _ ⟨rfl, da_d (s := ⟨s.m, s.r, false, true, s.cs⟩) (e4 _ _ (by rw [upd_ne hn]; exact e3 _ _ hq)) hn, ((ex_b2 (e1.trans (e2.trans e3))).trans but2_x).trans ((ex_b2 e4).trans but2_x)⟩
    have n0 : ¬ c < 0 := of_decide_eq_false hb
    have hR2 := hR.ex (e1.trans e2)
    refine s_if (b := s.w) (et_B (ev_dget (ev_var rfl) ev_c hR2.1 kl_w)) (fun hw H3 e3 => ?_) (fun hw H3 e3 => ?_)
    · have hs : stepS s c = emitS ⟨s.m, s.r, false, s.f, s.cs⟩ 35 c (s.m + 1) := by unfold stepS; rw [if_neg n0, if_pos hw]
      rw [hs] at k
      obtain ⟨hx, hq⟩ := hR2.ex e3
      refine q_dput (k := .inr "waiting") ev_c (ev_var rfl) ev_c hx kv_len (fun H4 e4 => ?_)
      rw [kp_w]
      have hR4 : DA (upd H4 d (.dK (KVs ⟨s.m, s.r, false, s.f, s.cs⟩ q))) d q ⟨s.m, s.r, false, s.f, s.cs⟩ := da_d (e4 _ _ hq) hn
      exact s_dropP (ep_lemit hR4 hz (ea_cons (ev_var rfl) (ea_cons ev_c (ea_cons (ev_var rfl) (ea_cons (ev_op (ev_dget (ev_var rfl) ev_c hR4.1 kl_m) ev_c rv_I0) ea_nil))))) fun v H5 h => by
        rw [← h.1]
        exact k v H5 (steps_bk h ((ex_b2 (e1.trans (e2.trans (e3.trans e4)))).trans but2_x))
    have hw' : ¬ s.w = true := by rw [hw]; exact Bool.false_ne_true
    have hR3 := hR2.ex e3
    have e13 := e1.trans (e2.trans e3)
    refine s_if (b := decide (c = 39)) (by walk_at "et") (fun hb H4 e4 => ?_) (fun hb H4 e4 => ?_)
    · have h39 : c = 39 := of_decide_eq_true hb
      have hs : stepS s c = ⟨s.m, s.r, true, s.f, s.cs⟩ := by subst h39; unfold stepS; rw [if_neg n0, if_neg hw']; rfl
      rw [hs] at k
      obtain ⟨hx, hq⟩ := hR3.ex e4
      refine s_dput (k := .inr "waiting") ev_c (ev_var rfl) ev_c hx kv_len (fun H5 e5 => ?_)
      rw [kp_w]
      exact k _ _ ⟨rfl, da_d (s := ⟨s.m, s.r, true, s.f, s.cs⟩) (e5 _ _ hq) hn, (ex_b2 (e13.trans (e4.trans e5))).trans but2_x⟩
    have n39 : ¬ c = 39 := of_decide_eq_false hb
    have hR4 := hR3.ex e4
    refine s_if (b := isDg c) (et_test (ev_chain ev_c (ev_var rfl) rv_I0 (fun _ => ev_c) (fun _ => rv_I0))) (fun hd H5 e5 => ?_) (fun hd H5 e5 => ?_)
    · have hs : stepS s c = ⟨s.m, 10 * s.r + c - 48, s.w, s.f, s.cs⟩ := by unfold stepS; rw [if_neg n0, if_neg hw', if_pos hd]
      rw [hs] at k
      obtain ⟨hx, hq⟩ := hR4.ex e5
      refine s_dput (k := .inr "r") (ev_op (ev_op (ev_op ev_c (ev_dget (ev_var rfl) ev_c hx kl_r) (rv_mulL (by decide))) (ev_var rfl) rv_I0) ev_c rv_I0) (ev_var rfl) ev_c hx kv_len (fun H6 e6 => ?_)
      rw [kp_r]
      exact k _ _ ⟨rfl, da_d (s := ⟨s.m, 10 * s.r + c - 48, s.w, s.f, s.cs⟩) (e6 _ _ hq) hn, (ex_b2 (e13.trans (e4.trans (e5.trans e6)))).trans but2_x⟩
    have hd' : ¬ isDg c = true := by rw [hd]; exact Bool.false_ne_true
    have hR5 := hR4.ex e5
    have e15 := e13.trans (e4.trans e5)
    refine s_if (b := decide (c = 58)) (by walk_at "et") (fun hb H6 e6 => ?_) (fun hb H6 e6 => ?_)
    · have h58 : c = 58 := of_decide_eq_true hb
      have hs : stepS s c = ⟨s.r, 0, s.w, s.f, s.cs⟩ := by subst h58; unfold stepS; rw [if_neg n0, if_neg hw', if_neg hd']; rfl
      rw [hs] at k
      obtain ⟨hx, hq⟩ := hR5.ex e6
      refine q_dput (k := .inr "m") (ev_dget (ev_var rfl) ev_c hx kl_r) (ev_var rfl) ev_c hx kv_len (fun H7 e7 => ?_)
      rw [kp_m]
      refine s_dput (k := .inr "r") ev_c (ev_var rfl) ev_c upd_same kv_len (fun H8 e8 => ?_)
      rw [kp_r]
      exact k _ _ ⟨rfl, da_d (s := ⟨s.r, 0, s.w, s.f, s.cs⟩) (e8 _ _ (by rw [upd_ne hn]; exact e7 _ _ hq)) hn, ((ex_b2 (e15.trans (e6.trans e7))).trans but2_x).trans ((ex_b2 e8).trans but2_x)⟩
    have n58 : ¬ c = 58 := of_decide_eq_false hb
    have hR6 := hR5.ex e6
    have e16 := e15.trans e6
    refine s_if (b := decide (c = 62)) (by walk_at "et") (fun hb H7 e7 => ?_) (fun hb H7 e7 => ?_)
    · have h62 : c = 62 := of_decide_eq_true hb
      have hs : stepS s c = emitS s 32 0 s.r := by subst h62; unfold stepS; rw [if_neg n0, if_neg hw', if_neg hd']; rfl
      rw [hs] at k
      have hR7 := hR6.ex e7
      exact s_dropP (ep_lemit hR7 hz (ea_cons (ev_var rfl) (ea_cons ev_c (ea_cons ev_c (ea_cons (ev_dget (ev_var rfl) ev_c hR7.1 kl_r) ea_nil))))) fun v H8 h => by
        rw [← h.1]
        exact k v H8 (steps_bk h (ex_b2 (e16.trans e7)))
    have n62 : ¬ c = 62 := of_decide_eq_false hb
    have hR7 := hR6.ex e7
    refine s_when (b := decide (32 < c)) (by walk_at "et") (fun hb H8 e8 => ?_) (fun hb H8 e8 => ?_)
    · have hs : stepS s c = emitS s c s.r (s.m + 1) := by unfold stepS; rw [if_neg n0, if_neg hw', if_neg hd', if_pos (of_decide_eq_true hb)]; unfold signS; rw [if_neg n39, if_neg n58, if_neg n62]
      rw [hs] at k
      have hR8 := hR7.ex e8
      exact s_dropP (ep_lemit hR8 hz (ea_cons (ev_var rfl) (ea_cons (ev_var rfl) (ea_cons (ev_dget (ev_var rfl) ev_c hR8.1 kl_r) (ea_cons (ev_op (ev_dget (ev_var rfl) ev_c hR8.1 kl_m) ev_c rv_I0) ea_nil))))) fun v H9 h => by
        rw [← h.1]
        exact k v H9 (steps_bk h (ex_b2 (e16.trans (e7.trans e8))))
    · have hs : stepS s c = s := by unfold stepS; rw [if_neg n0, if_neg hw', if_neg hd', if_neg (of_decide_eq_false hb)]
      rw [hs] at k
      exact k _ _ ⟨rfl, hR7.ex e8, ex_b2 (e16.trans (e7.trans e8))⟩
theorem ep_lstep {d q : Addr} {s : SS} {c : Int} {σ : L2.St} {H : Hp} {t : TA} (hR : DA H d q s) (hz : s.cs.length ≤ 50000) (ht : EvA t σ H [.ref d, .int c]) : EvP (tCall (sp_law_step K) [] E0 t) σ H (Steps d q H (feedS s c)) :=
  ep_call ht fun H1 e1 Q k => ⟨d, q, s, c, rfl, hR.ex e1, hz, fun v H' h => k v H' (steps_bk h (ex_b2 e1))⟩
def Begun (H : Hp) : V → Hp → Prop := fun v H' => ∃ d q, v = .ref d ∧ H d = none ∧ H q = none ∧ DA H' d q s0 ∧ Ex H H'
def sp_law_begun (K : PySem.W.Frag) : Sp := fun vs H Q _ => vs = [] ∧ ∀ v H', Begun H v H' → Q v H'
theorem ep_begun {σ : L2.St} {H : Hp} : EvP (tCall (sp_law_begun K) [] E0 tNil) σ H (Begun H) := fun Q q => ⟨rfl, q⟩
theorem ok_law_begun (T : Txt K mg) : FnOk P w K mg base CX0 1 T.f_law_begun T.d_law_begun [] (sp_law_begun K) := by
  refine T.F_law_begun.ok sc_law_begun (fun vs H Q E h => ?_) (fun cdv A outer s H vs Q E hr h => ?_)
  · obtain ⟨rfl, _⟩ := h
    rfl
  · obtain ⟨rfl, k⟩ := h
    refine ⟨_, (pss_one (ps_ret (pe_disp (pps_cons pe_str pe_int (pps_cons pe_str pe_int (pps_cons pe_str pe_bl (pps_cons pe_str pe_bl (pps_cons pe_str (pe_lst pa_nil) pps_nil))))) (by rfl) (by rfl) (fun z => by cases z) (by decide)))), ?_⟩
    intro d hd
    refine ⟨(by show 0 ≤ sizeLine; exact Nat.zero_le _), fun q hq => ?_⟩
    have nqd : q ≠ d := fun e => by rw [e, upd_same] at hq; cases hq
    refine ⟨by rw [upd_ne (Ne.symm nqd)]; exact upd_same, KVs s0 q, rfl, by show 5 ≤ 15; decide, ?_⟩
    refine k _ _ ⟨d, q, rfl, hd, by rw [upd_ne nqd] at hq; exact hq, ⟨upd_same, by rw [upd_ne nqd]; exact upd_same⟩, fun b o e => ?_⟩
    have n1 := ne_of_none e hd
    have n2 : b ≠ q := fun z => by rw [z] at e; rw [upd_ne nqd, e] at hq; cases hq
    rw [upd_ne n1, upd_ne n2, upd_ne n1]
    exact e

/-! ### pieces -/
/-- a new list of nine new lists of ints, together the given list -/
def NewP (p : Addr) (H : Hp) (cs : List Int) : V → Hp → Prop := fun v H' => ∃ (g : Addr) (as : List Addr) (ps : List (List Int)), v = .ref g ∧ H g = none ∧ (∀ a ∈ as, H a = none) ∧ But p H H' ∧ H' g = some (.lst (as.map V.ref)) ∧ Pcs H' as ps ∧ ps.flatten = cs ∧ as.length = 9
def sp_law_pieces (K : PySem.W.Frag) : Sp := fun vs H Q _ => ∃ (p q : Addr) (cs : List Int), vs = [.ref p, .ref q] ∧ q ≠ p ∧ Drw p H ∧ H q = some (.lst (cs.map V.int)) ∧ ∀ v H', NewP p H cs v H' → Q v H'
theorem ep_pieces {p q : Addr} {i j : Nat} {cs : List Int} {σ : L2.St} {H : Hp} (hi : σ[i]? = some (some (.ref p))) (hj : σ[j]? = some (some (.ref q))) (n : q ≠ p) (hD : Drw p H) (hq : H q = some (.lst (cs.map V.int))) : EvP (tCall (sp_law_pieces K) [] E0 (tCons (tVar i) (tCons (tVar j) tNil))) σ H (NewP p H cs) := fun Q k => ⟨_, hi, _, hj, p, q, cs, rfl, n, hD, hq, k⟩
theorem ok_law_pieces (T : Txt K mg) : FnOk P w K mg base CX0 3 T.f_law_pieces T.d_law_pieces ["draws", "codes"] (sp_law_pieces K) := by
  refine T.F_law_pieces.ok sc_law_pieces (fun vs H Q E h => ?_) (fun cdv A outer s H vs Q E hr h => ?_)
  · obtain ⟨p, q, cs, rfl, _⟩ := h
    rfl
  · obtain ⟨p, q, cs, rfl, nqp, hD, hq, k⟩ := h
    refine ⟨_, (pss_cons (ps_set (i := 2) sc_law_pieces.nd rfl (Or.inl rfl) (pe_lst pa_nil))
        (pss_cons (ps_set (i := 3) sc_law_pieces.nd rfl (Or.inl rfl) pe_int)
        (pss_cons (ps_for PassesOwn.never rfl (pi_range1 (by rfl) T.n_range (pa_cons pe_int pa_nil)) (pg_name (i := 4) sc_law_pieces.nd rfl (Or.inl rfl)) (pss_cons (ps_set (i := 5) sc_law_pieces.nd rfl (Or.inl rfl) (pe_call (ok_law_pick T) (hr.mono (by decide)) (by rfl) T.g_law_pick T.F_law_pick.kp T.b_law_pick .nil pass0 (pa_cons (pv 0) (pa_cons pe_int pa_nil))))
        (pss_cons (ps_expr (pe_bm PySem.F.plainAttrs_list PySem.F.slot_list_append PySem.F.type_list_append mt_append (pv 2) (pa_cons (pe_slice sl_list (pv 1) (po_some (pv 3)) (po_some (pe_op op_add (pv 3) (pv 5)))) pa_nil)))
        (pss_one (ps_set (i := 3) sc_law_pieces.nd rfl (Or.inl rfl) (pe_op op_add (pv 3) (pv 5)))))))
        (pss_cons (ps_expr (pe_bm PySem.F.plainAttrs_list PySem.F.slot_list_append PySem.F.type_list_append mt_append (pv 2) (pa_cons (pe_slice sl_list (pv 1) (po_some (pv 3)) po_none) pa_nil)))
        (pss_one (ps_ret (pv 2))))))), ?_⟩
    refine q_asgL (el_lst ea_nil (by decide)) (fun g H1 hg e1 d1 => ?_)
    have hp : ∃ o, H p = some o := by
      obtain ⟨ds, h, _⟩ := hD
      exact ⟨_, h⟩
    obtain ⟨op, hp⟩ := hp
    have ngp : g ≠ p := Ne.symm (ne_of_none hp hg)
    have nqg : q ≠ g := ne_of_none hq hg
    refine q_asg ev_c (fun H2 e2 => ?_)
    refine q_forR1 (ea_cons ev_c ea_nil) (by decide) (fun i σ' H' => Drw p H' ∧ But p H H' ∧ ∃ (as : List Addr) (ps : List (List Int)) (at_ : Nat) (y z : Option V), (∀ a ∈ as, H a = none ∧ a ≠ g ∧ a ≠ p) ∧ H' g = some (.lst (as.map V.ref)) ∧ Pcs H' as ps ∧ ps.flatten = cs.take at_ ∧ as.length = i ∧ σ' = [some (.ref p), some (.ref q), some (.ref g), some (.int (at_ : Int)), y, z]) ?_ ?_ ?_
    · intro H3 e3
      exact ⟨((hD.ex e1).ex e2).ex e3, ex_but (e1.trans (e2.trans e3)), [], [], 0, none, none, (fun a m => nomatch m), e3 _ _ (e2 _ _ d1), trivial, rfl, rfl, rfl⟩
    · rintro i σ' H' hi ⟨hD', bb, as, ps, at_, y, z, hna, hg', hP, hF, hlen, rfl⟩
      refine q_asgP (ep_pick rfl hD' ev_c (by decide)) (fun v H3 hv => ?_)
      obtain ⟨size, rfl, hs, hD3, b3⟩ := hv
      obtain ⟨n, rfl⟩ : ∃ n : Nat, size = (n : Int) := ⟨size.toNat, (Int.toNat_of_nonneg hs.1).symm⟩
      have hq3 : H3 q = some (.lst (cs.map V.int)) := b3 _ _ nqp (bb _ _ nqp hq)
      have hg3 := b3 _ _ ngp hg'
      refine q_appL hg3 (ev_var rfl) (el_sl (ev_var rfl) (eo_some (ev_var rfl)) (eo_some (ev_op (ev_var rfl) (ev_var rfl) rv_I0)) (sq_of hq3)) (by rw [List.length_map]; omega) (fun a H4 ha e4 d4 => ?_)
      rw [show ((at_ : Int) + (n : Int)) = ((at_ + n : Nat) : Int) from by omega, cut_ints, show at_ + n - at_ = n from by omega] at d4
      refine s_asg (ev_op (ev_var rfl) (ev_var rfl) rv_I0) (fun H5 e5 => ?_)
      have hga : a ≠ g := Ne.symm (ne_of_none hg3 ha)
      have hpa : a ≠ p := by
        obtain ⟨ds, h, _⟩ := hD3
        exact Ne.symm (ne_of_none h ha)
      have haH : H a = none := by
        cases e : H a with
        | none => rfl
        | some o =>
          rw [b3 _ _ hpa (bb _ _ hpa e)] at ha
          cases ha
      have b4 : But p H (upd H4 g (.lst (as.map V.ref ++ [.ref a]))) := fun c u m h => by
        rw [upd_ne (ne_of_none h hg)]
        exact e4 _ _ (b3 _ _ m (bb _ _ m h))
      refine ⟨?_, b4.trans (ex_but e5), as ++ [a], ps ++ [(cs.drop at_).take n], at_ + n, some (.int (i : Int)), some (.int (n : Int)), ?_, ?_, ?_, ?_, ?_, rfl⟩
      · refine Drw.ex ?_ e5
        obtain ⟨ds, h, s⟩ := hD3.ex e4
        exact ⟨ds, by rw [upd_ne (Ne.symm ngp)]; exact h, s⟩
      · intro c m
        rcases List.mem_append.mp m with m | m
        · exact hna c m
        · rw [List.mem_singleton.mp m]
          exact ⟨haH, hga, hpa⟩
      · refine e5 _ _ ?_
        rw [upd_same, List.map_append]
        rfl
      · refine Pcs.ex ?_ e5
        refine Pcs.snoc (hP.keep fun c o m h => ?_) ?_
        · rw [upd_ne (hna c m).2.1]
          exact e4 _ _ (b3 _ _ (hna c m).2.2 h)
        · rw [upd_ne hga]
          exact d4
      · rw [List.flatten_append, hF, List.flatten_cons, List.flatten_nil, List.append_nil, List.take_add]
      · rw [List.length_append, hlen]
        rfl
    · rintro σ' H3 ⟨hD3, bb, as, ps, at_, y, z, hna, hg3, hP, hF, hlen, rfl⟩
      have hlen : as.length = 8 := hlen
      have hq3 : H3 q = some (.lst (cs.map V.int)) := bb _ _ nqp hq
      refine q_appL hg3 (ev_var rfl) (el_sl (ev_var rfl) (eo_some (ev_var rfl)) eo_none (sq_of hq3)) (by rw [List.length_map]; omega) (fun a H4 ha e4 d4 => ?_)
      rw [cut_from] at d4
      have hga : a ≠ g := Ne.symm (ne_of_none hg3 ha)
      have hpa : a ≠ p := by
        obtain ⟨ds, h, _⟩ := hD3
        exact Ne.symm (ne_of_none h ha)
      have haH : H a = none := by
        cases e : H a with
        | none => rfl
        | some o =>
          rw [bb _ _ hpa e] at ha
          cases ha
      refine s_ret (ev_var rfl) fun H5 e5 => k _ H5 ⟨g, as ++ [a], ps ++ [cs.drop at_], rfl, hg, ?_, ?_, ?_, ?_, ?_, ?_⟩
      · intro c m
        rcases List.mem_append.mp m with m | m
        · exact (hna c m).1
        · rw [List.mem_singleton.mp m]
          exact haH
      · intro c u m h
        refine e5 _ _ ?_
        rw [upd_ne (ne_of_none h hg)]
        exact e4 _ _ (bb _ _ m h)
      · refine e5 _ _ ?_
        rw [upd_same, List.map_append]
        rfl
      · refine Pcs.ex ?_ e5
        refine Pcs.snoc (hP.keep fun c o m h => ?_) ?_
        · rw [upd_ne (hna c m).2.1]
          exact e4 _ _ h
        · rw [upd_ne hga]
          exact d4
      · rw [List.flatten_append, hF, List.flatten_cons, List.flatten_nil, List.append_nil, List.take_append_drop]
      · rw [List.length_append, hlen]
        rfl
/-! ### a reader is at a state -/
def sp_law_is_at (K : PySem.W.Frag) (C : Addr) : Sp := fun vs H Q _ => ∃ (x q d z : Addr) (s : SS), vs = [.ref x, .ref d] ∧ RA C H x q s ∧ DA H d z s ∧ s.cs.length ≤ 50000 ∧ ∀ H', Ex H H' → Q (.bl true) H'
theorem v_is_at {C x q d z : Addr} {s : SS} {H : Hp} (hR : RA C H x q s) (hA : DA H d z s) (hz : s.cs.length ≤ 50000) : SpV (sp_law_is_at K C) [.ref x, .ref d] H (.bl true) := fun _ e _ k _ => ⟨x, q, d, z, s, rfl, hR.ex e, hA.ex e, hz, k⟩
theorem ok_law_is_at (T : Txt K mg) : FnOk P w K mg base CX0 3 T.f_law_is_at T.d_law_is_at ["reader", "state"] (sp_law_is_at K T.C_ShortReader) := by
  refine T.F_law_is_at.ok sc_law_is_at (fun vs H Q E h => ?_) (fun cdv A outer s H vs Q E hr h => ?_)
  · obtain ⟨x, q, d, z, s, rfl, _⟩ := h
    rfl
  · obtain ⟨x, q, d, z, s, rfl, hR, hA, hz, k⟩ := h
    refine ⟨_, (pss_cons (ps_if (PW.pt (pw_or (pt_not (pt_val (pe_call (ok_law_is_integer T) (hr.mono (by decide)) (by rfl) T.g_law_is_integer T.F_law_is_integer.kp T.b_law_is_integer .nil pass0 (pa_cons (pe_fld (pv 0) rfl) pa_nil)))) (pw_or1 (pt_not (pt_val (pe_call (ok_law_is_integer T) (hr.mono (by decide)) (by rfl) T.g_law_is_integer T.F_law_is_integer.kp T.b_law_is_integer .nil pass0 (pa_cons (pe_fld (pv 0) rfl) pa_nil))))))) (pss_one (ps_ret pe_bl)) pss_nil)
        (pss_cons (ps_if (PW.pt (pw_or (pt_not (pt_val (pe_callB call_isi (by rfl) T.n_isinstance (by decide +kernel) (pa_cons (pe_fld (pv 0) rfl) (pa_cons (pe_bltn (v := .ty "bool") (by rfl) T.n_bool (by decide +kernel) rfl) pa_nil))))) (pw_or1 (pt_not (pt_val (pe_callB call_isi (by rfl) T.n_isinstance (by decide +kernel) (pa_cons (pe_fld (pv 0) rfl) (pa_cons (pe_bltn (v := .ty "bool") (by rfl) T.n_bool (by decide +kernel) rfl) pa_nil)))))))) (pss_one (ps_ret pe_bl)) pss_nil)
        (pss_cons (ps_if (PW.pt (pw_or (pt_cmpR op_ne (pe_fld (pv 0) rfl) (pe_dget (hu_of hr) (pv 1) pe_str (fun _ _ => rfl)) (nomark _)) (pw_or1 (pt_cmpR op_ne (pe_fld (pv 0) rfl) (pe_dget (hu_of hr) (pv 1) pe_str (fun _ _ => rfl)) (nomark _))))) (pss_one (ps_ret pe_bl)) pss_nil)
        (pss_cons (ps_if (PW.pt (pw_or (pt_cmpR op_ne (pe_fld (pv 0) rfl) (pe_dget (hu_of hr) (pv 1) pe_str (fun _ _ => rfl)) (nomark _)) (pw_or1 (pt_cmpR op_ne (pe_fld (pv 0) rfl) (pe_dget (hu_of hr) (pv 1) pe_str (fun _ _ => rfl)) (nomark _))))) (pss_one (ps_ret pe_bl)) pss_nil)
        (pss_cons (ps_set (i := 2) sc_law_is_at.nd rfl (Or.inl rfl) (pe_meth0 (pv 0) T.cl_ShortReader T.m_ShortReader_image (ok_ShortReader_image T) (hr.mono (by decide)) T.b_ShortReader_image .nil pass0))
        (pss_cons (ps_if (PW.pt (pw_or (pt_not (pt_val (pe_call (ok_law_is_cells T) (hr.mono (by decide)) (by rfl) T.g_law_is_cells T.F_law_is_cells.kp T.b_law_is_cells .nil pass0 (pa_cons (pv 2) pa_nil)))) (pw_or1 (pt_cmpR (op_neD hr.units) (pv 2) (pe_dget (hu_of hr) (pv 1) pe_str (fun _ _ => rfl)) (nomark _))))) (pss_one (ps_ret pe_bl)) pss_nil)
        (pss_cons (ps_expr (pe_bm PySem.F.plainAttrs_list PySem.F.slot_list_append PySem.F.type_list_append mt_append (pv 2) (pa_cons pe_int pa_nil)))
        (pss_one (ps_ret (pe_cmpR (op_eqD hr.units) (pe_meth0 (pv 0) T.cl_ShortReader T.m_ShortReader_image (ok_ShortReader_image T) (hr.mono (by decide)) T.b_ShortReader_image .nil pass0) (pe_dget (hu_of hr) (pv 1) pe_str (fun _ _ => rfl)) (nomark _))))))))))), ?_⟩
    obtain ⟨⟨dx, hx⟩, hq⟩ := id hR
    obtain ⟨hd, hc⟩ := id hA
    refine q_when (b := (!true || !true)) (et_or (et_not (et_B (ev_call (ea_cons (ev_fld (ev_var rfl) hx T.cl_ShortReader T.na_ShortReader_m lk_m) ea_nil) v_law_is_integer))) (fun _ => et_not (et_B (ev_call (ea_cons (ev_fld (ev_var rfl) hx T.cl_ShortReader T.na_ShortReader_r lk_r) ea_nil) v_law_is_integer)))) (fun hb => absurd hb (by decide)) (fun _ H1 e1 => ?_)
    have hx1 := e1 _ _ hx
    refine q_when (b := (!true || !true)) (et_or (et_not (et_B (ev_cb (ea_cons (ev_fld (ev_var rfl) hx1 T.cl_ShortReader T.na_ShortReader_waiting lk_w) (ea_cons ev_c ea_nil)) rc_isBool))) (fun _ => et_not (et_B (ev_cb (ea_cons (ev_fld (ev_var rfl) hx1 T.cl_ShortReader T.na_ShortReader_finished lk_f) (ea_cons ev_c ea_nil)) rc_isBool)))) (fun hb => absurd hb (by decide)) (fun _ H2 e2 => ?_)
    have hx2 := e2 _ _ hx1
    have hd2 := e2 _ _ (e1 _ _ hd)
    refine q_when (b := (!decide (V.int s.m = V.int s.m) || !decide (V.int s.r = V.int s.r))) (et_or (et_test (ev_op (ev_fld (ev_var rfl) hx2 T.cl_ShortReader T.na_ShortReader_m lk_m) (ev_dget (ev_var rfl) ev_c hd2 kl_m) (rv_ne rfl))) (fun _ => et_test (ev_op (ev_fld (ev_var rfl) hx2 T.cl_ShortReader T.na_ShortReader_r lk_r) (ev_dget (ev_var rfl) ev_c hd2 kl_r) (rv_ne rfl)))) (fun hb => by rw [decide_eq_true rfl, decide_eq_true rfl] at hb; cases hb) (fun _ H3 e3 => ?_)
    have hx3 := e3 _ _ hx2
    have hd3 := e3 _ _ hd2
    refine q_when (b := (!decide (V.bl s.w = V.bl s.w) || !decide (V.bl s.f = V.bl s.f))) (et_or (et_test (ev_op (ev_fld (ev_var rfl) hx3 T.cl_ShortReader T.na_ShortReader_waiting lk_w) (ev_dget (ev_var rfl) ev_c hd3 kl_w) (rv_ne rfl))) (fun _ => et_test (ev_op (ev_fld (ev_var rfl) hx3 T.cl_ShortReader T.na_ShortReader_finished lk_f) (ev_dget (ev_var rfl) ev_c hd3 kl_f) (rv_ne rfl)))) (fun hb => by rw [decide_eq_true rfl, decide_eq_true rfl] at hb; cases hb) (fun _ H4 e4 => ?_)
    have e14 := e1.trans (e2.trans (e3.trans e4))
    have hR4 := hR.ex e14
    refine q_asgL (el_image (ev_var rfl) hR4) (fun i H5 hi e5 d5 => ?_)
    have hA5 := hA.ex (e14.trans e5)
    refine q_when (b := (!true || !decide (s.cs = s.cs))) (et_or (et_not (et_B (ev_call (ea_cons (ev_var rfl) ea_nil) (v_law_is_cells d5)))) (fun _ => et_test (ev_op (ev_var rfl) (ev_dget (ev_var rfl) ev_c hA5.1 kl_c) (rv_neL (sq_of d5) (sq_of hA5.2))))) (fun hb => by rw [decide_eq_true rfl] at hb; cases hb) (fun _ H6 e6 => ?_)
    have hi0 := fresh_back e14 hi
    refine q_app (e6 _ _ d5) (ev_var rfl) ev_c (by rw [List.length_map]; omega) (fun H7 e7 => ?_)
    have eX : Ex H (upd H7 i (.lst (s.cs.map V.int ++ [V.int 5]))) := Ex.mut (e14.trans (e5.trans (e6.trans e7))) hi0
    have hRX := hR.ex eX
    have hAX := hA.ex eX
    refine s_ret (v := .bl (decide (s.cs = s.cs))) (ev_opL1 (el_image (ev_var rfl) hRX) (fun H8 e8 => ev_dget (ev_var rfl) ev_c (e8 _ _ hAX.1) kl_c) (fun p H8 h8 e8 => rv_eqL (sq_of h8) (sq_of (e8 _ _ hAX.2)))) (fun H8 e8 => ?_)
    rw [decide_eq_true rfl]
    exact k H8 (eX.trans e8)
/-! ### one feed -/
def Fed (C x q d z : Addr) (H : Hp) (s' : SS) (H' : Hp) : Prop := RA C H' x q s' ∧ DA H' d z s' ∧ Bu [x, q, d, z] H H'
def sp_law_feeds (K : PySem.W.Frag) (C : Addr) : Sp := fun vs H Q _ => ∃ (x q d z a : Addr) (s : SS) (ns : List Int), vs = [.ref x, .ref d, .ref a] ∧ RA C H x q s ∧ DA H d z s ∧ (d ≠ x ∧ d ≠ q ∧ z ≠ x ∧ z ≠ q) ∧ a ∉ [x, q, d, z] ∧ H a = some (.lst (ns.map V.int)) ∧ s.cs.length + 4 * ns.length ≤ 50000 ∧ ∀ H', Fed C x q d z H (ns.foldl feedS s) H' → Q (.bl true) H'
theorem ok_law_feeds (T : Txt K mg) : FnOk P w K mg base CX0 5 T.f_law_feeds T.d_law_feeds ["reader", "state", "piece"] (sp_law_feeds K T.C_ShortReader) := by
  refine T.F_law_feeds.ok sc_law_feeds (fun vs H Q E h => ?_) (fun cdv A outer s H vs Q E hr h => ?_)
  · obtain ⟨x, q, d, z, a, s, ns, rfl, _⟩ := h
    rfl
  · obtain ⟨x, q, d, z, a, s, ns, rfl, hR, hA, hn, na, hP, hz, k⟩ := h
    refine ⟨_, (pss_cons (ps_set (i := 3) sc_law_feeds.nd rfl (Or.inl rfl) (pe_callTy call_list_of (by rfl) T.n_list (by decide +kernel) (pa_cons (pv 2) pa_nil)))
        (pss_cons (ps_if (PW.pt (pw_or (pt_cmpR op_notN (pe_meth (pv 0) T.cl_ShortReader T.m_ShortReader_feed (ok_ShortReader_feed T) (hr.mono (by decide)) T.b_ShortReader_feed .nil pass0 (pa_cons (pv 3) pa_nil)) pe_non (nomark _)) (pw_or1 (pt_cmpR (op_neD hr.units) (pv 3) (pv 2) (nomark _))))) (pss_one (ps_ret pe_bl)) pss_nil)
        (pss_cons (ps_for PassesOwn.never rfl (pi_range1 (by rfl) T.n_range (pa_cons (pe_callB call_len_seq (by rfl) T.n_len (by decide +kernel) (pa_cons (pv 3) pa_nil)) pa_nil)) (pg_name (i := 4) sc_law_feeds.nd rfl (Or.inl rfl)) (pss_one (ps_asg pe_int (pg_sub (pv 3) (pv 4) set_list))))
        (pss_cons (ps_expr (pe_bm PySem.F.plainAttrs_list PySem.F.slot_list_append PySem.F.type_list_append mt_append (pv 3) (pa_cons pe_int pa_nil)))
        (pss_cons (ps_for PassesOwn.never rfl (pi_list (pv 2)) (pg_name (i := 5) sc_law_feeds.nd rfl (Or.inl rfl)) (pss_one (ps_expr (pe_call (ok_law_step T) (hr.mono (by decide)) (by rfl) T.g_law_step T.F_law_step.kp T.b_law_step .nil pass0 (pa_cons (pv 1) (pa_cons (pv 5) pa_nil))))))
        (pss_one (ps_ret (pe_call (ok_law_is_at T) (hr.mono (by decide)) (by rfl) T.g_law_is_at T.F_law_is_at.kp T.b_law_is_at .nil pass0 (pa_cons (pv 0) (pa_cons (pv 1) pa_nil)))))))))), ?_⟩
    have na1 : a ≠ x := fun e => na (by rw [e]; exact List.mem_cons_self)
    have na2 : a ≠ q := fun e => na (by rw [e]; exact List.mem_cons_of_mem _ List.mem_cons_self)
    have na3 : a ≠ d := fun e => na (by rw [e]; exact List.mem_cons_of_mem _ (List.mem_cons_of_mem _ List.mem_cons_self))
    have na4 : a ≠ z := fun e => na (by rw [e]; exact List.mem_cons_of_mem _ (List.mem_cons_of_mem _ (List.mem_cons_of_mem _ List.mem_cons_self)))
    refine q_asgL (el_list (ev_var rfl) (sq_of hP)) (fun r H1 hr e1 d1 => ?_)
    have hR1 := hR.ex e1
    have hA1 := hA.ex e1
    have nrx : r ≠ x := Ne.symm (ne_of_none hR.1.choose_spec hr)
    have nrq : r ≠ q := Ne.symm (ne_of_none hR.2 hr)
    have nrd : r ≠ d := Ne.symm (ne_of_none hA.1 hr)
    have nrz : r ≠ z := Ne.symm (ne_of_none hA.2 hr)
    have nra : a ≠ r := ne_of_none hP hr
    refine q_whenP (P2 := fun b H' => b = false ∧ RA T.C_ShortReader H' x q (ns.foldl feedS s) ∧ But2 x q H1 H') ?_ (fun H' h => nomatch h.1) ?_
    · refine etp_or (P1 := fun b H' => b = false ∧ RA T.C_ShortReader H' x q (ns.foldl feedS s) ∧ But2 x q H1 H') (etp_op (ep_feed (ev_var rfl) hR1 nrx nrq d1 hz (ea_cons (ev_var rfl) ea_nil)) (fun v H2 h2 => ⟨.non, false, ev_c, ?_, fun H' e' => ⟨rfl, h2.2.1.ex e', h2.2.2.trans (ex_b2 e')⟩⟩)) (fun H' h => nomatch h.1) (fun H2 h2 => ?_)
      · obtain ⟨rfl, _⟩ := h2
        exact fun H1 _ Q q => ⟨rfl, q H1 (Ex.refl H1)⟩
      · have hr2 := h2.2.2 _ _ nrx nrq d1
        have ha2 := h2.2.2 _ _ na1 na2 (e1 _ _ hP)
        refine etp_imp (etp_of (et_test (ev_op (ev_var rfl) (ev_var rfl) (rv_neL (sq_of hr2) (sq_of ha2))))) (fun b H' hb => ⟨by rw [hb.1, decide_eq_true rfl]; rfl, h2.2.1.ex hb.2, h2.2.2.trans (ex_b2 hb.2)⟩)
    · rintro H2 ⟨_, hR2, b2⟩
      have hr2 := b2 _ _ nrx nrq d1
      have ha2 := b2 _ _ na1 na2 (e1 _ _ hP)
      have hA2 : DA H2 d z s := ⟨b2 _ _ hn.1 hn.2.1 hA1.1, b2 _ _ hn.2.2.1 hn.2.2.2 hA1.2⟩
      have B2 : Bu [x, q, d, z] H H2 := fun b o m h => b2 _ _ (fun e => m (by rw [e]; exact List.mem_cons_self)) (fun e => m (by rw [e]; exact List.mem_cons_of_mem _ List.mem_cons_self)) (e1 _ _ h)
      have hlr := ev_len (K := K) (ta := tVar 3) (σ := [some (.ref x), some (.ref d), some (.ref a), some (.ref r), none, none]) (H := H2) (ev_var rfl) (sq_of hr2)
      rw [List.length_map] at hlr
      refine q_forR1 (ea_cons hlr ea_nil) (by omega) (fun i σ' H' => (∃ ms : List Int, H' r = some (.lst (ms.map V.int)) ∧ ms.length = ns.length) ∧ RA T.C_ShortReader H' x q (ns.foldl feedS s) ∧ DA H' d z s ∧ H' a = some (.lst (ns.map V.int)) ∧ Bu [x, q, d, z] H H' ∧ ∃ y, σ' = [some (.ref x), some (.ref d), some (.ref a), some (.ref r), y, none]) ?_ ?_ ?_
      · intro H3 e3
        exact ⟨⟨ns, e3 _ _ hr2, rfl⟩, hR2.ex e3, hA2.ex e3, e3 _ _ ha2, B2.trans (ex_bu e3), none, rfl⟩
      · rintro i σ' H' hi ⟨⟨ms, hm, hml⟩, hR', hA', ha', B', y, rfl⟩
        refine s_setL hm ev_c (ev_var rfl) (ev_var rfl) (by rw [List.length_map]; omega) (fun H4 e4 => ?_)
        refine ⟨⟨ms.set i 35, by rw [upd_same, List.map_set], by rw [List.length_set]; exact hml⟩, ?_, ?_, ?_, ?_, some (.int (i : Int)), rfl⟩
        · obtain ⟨⟨dx, h1⟩, h2⟩ := hR'.ex e4
          exact ⟨⟨dx, by rw [upd_ne (Ne.symm nrx)]; exact h1⟩, by rw [upd_ne (Ne.symm nrq)]; exact h2⟩
        · obtain ⟨h1, h2⟩ := hA'.ex e4
          exact ⟨by rw [upd_ne (Ne.symm nrd)]; exact h1, by rw [upd_ne (Ne.symm nrz)]; exact h2⟩
        · rw [upd_ne nra]
          exact e4 _ _ ha'
        · exact (B'.trans (ex_bu e4)).upd (.inr hr)
      · rintro σ' H3 ⟨⟨ms, hm, hml⟩, hR3, hA3, ha3, B3, y, rfl⟩
        refine q_app hm (ev_var rfl) ev_c (by rw [List.length_map]; omega) (fun H4 e4 => ?_)
        have hR4 : RA T.C_ShortReader (upd H4 r (.lst (ms.map V.int ++ [V.int 46]))) x q (ns.foldl feedS s) := by
          obtain ⟨⟨dx, h1⟩, h2⟩ := hR3.ex e4
          exact ⟨⟨dx, by rw [upd_ne (Ne.symm nrx)]; exact h1⟩, by rw [upd_ne (Ne.symm nrq)]; exact h2⟩
        have hA4 : DA (upd H4 r (.lst (ms.map V.int ++ [V.int 46]))) d z s := by
          obtain ⟨h1, h2⟩ := hA3.ex e4
          exact ⟨by rw [upd_ne (Ne.symm nrd)]; exact h1, by rw [upd_ne (Ne.symm nrz)]; exact h2⟩
        have ha4 : (upd H4 r (.lst (ms.map V.int ++ [V.int 46]))) a = some (.lst (ns.map V.int)) := by
          rw [upd_ne nra]
          exact e4 _ _ ha3
        have B4 : Bu [x, q, d, z] H (upd H4 r (.lst (ms.map V.int ++ [V.int 46]))) := (B3.trans (ex_bu e4)).upd (.inr hr)
        generalize upd H4 r (.lst (ms.map V.int ++ [V.int 46])) = HB at hR4 hA4 ha4 B4
        refine q_forLn (ev_var rfl) (sq_of ha4) (fun i σ' H' => DA H' d z ((ns.take i).foldl feedS s) ∧ But2 d z HB H' ∧ ∃ y1 y2, σ' = [some (.ref x), some (.ref d), some (.ref a), some (.ref r), y1, y2]) ?_ ?_ ?_ ?_
        · intro H5 e5
          exact ⟨hA4.ex e5, ex_b2 e5, y, none, rfl⟩
        · rintro i σ' H' _ ⟨_, b, _⟩
          exact sq_of (b _ _ na3 na4 ha4)
        · rintro i c' σ' H' hx ⟨hR1, b1, y1, y2, rfl⟩
          obtain ⟨c, hc, rfl⟩ := map_at hx
          have hlen := run_len (ns.take i) s
          rw [List.length_take] at hlen
          have hi := (List.getElem?_eq_some_iff.mp hc).1
          rw [foldl_snoc hc]
          exact s_dropP (ep_lstep hR1 (by omega) (ea_cons (ev_var rfl) (ea_cons (ev_var rfl) ea_nil))) fun v H4 h => ⟨h.2.1, b1.trans h.2.2, _, _, rfl⟩
        · rintro σ' H5 ⟨hA5, b5, y1, y2, rfl⟩
          rw [List.length_map, List.take_length] at hA5
          have hR5 : RA T.C_ShortReader H5 x q (ns.foldl feedS s) := by
            obtain ⟨⟨dx, h1⟩, h2⟩ := hR4
            exact ⟨⟨dx, b5 _ _ (Ne.symm hn.1) (Ne.symm hn.2.2.1) h1⟩, b5 _ _ (Ne.symm hn.2.1) (Ne.symm hn.2.2.2) h2⟩
          have hlen := run_len ns s
          refine s_ret (ev_call (ea_cons (ev_var rfl) (ea_cons (ev_var rfl) ea_nil)) (v_is_at hR5 hA5 (by omega))) (fun H6 e6 => k H6 ⟨hR5.ex e6, hA5.ex e6, ?_⟩)
          refine (B4.trans fun b o m h => ?_).trans (ex_bu e6)
          exact b5 _ _ (fun e => m (by rw [e]; exact List.mem_cons_of_mem _ (List.mem_cons_of_mem _ List.mem_cons_self))) (fun e => m (by rw [e]; exact List.mem_cons_of_mem _ (List.mem_cons_of_mem _ (List.mem_cons_of_mem _ List.mem_cons_self)))) h
theorem ep_feeds {C x q d z a : Addr} {s : SS} {ns : List Int} {σ : L2.St} {H : Hp} {t : TA} (hR : RA C H x q s) (hA : DA H d z s) (hn : d ≠ x ∧ d ≠ q ∧ z ≠ x ∧ z ≠ q) (na : a ∉ [x, q, d, z]) (hP : H a = some (.lst (ns.map V.int))) (hz : s.cs.length + 4 * ns.length ≤ 50000) (ht : EvA t σ H [.ref x, .ref d, .ref a]) :
    EvP (tCall (sp_law_feeds K C) [] E0 t) σ H (fun v H' => v = .bl true ∧ Fed C x q d z H (ns.foldl feedS s) H') :=
  ep_call ht fun H1 e1 Q k => ⟨x, q, d, z, a, s, ns, rfl, hR.ex e1, hA.ex e1, hn, na, e1 _ _ hP, hz, fun H' h => k _ H' ⟨rfl, h.1, h.2.1, (ex_bu e1).trans h.2.2⟩⟩
def sp_law (K : PySem.W.Frag) : Sp := fun vs H Q _ => ∃ (a : Addr) (ns : List Int), vs = [.ref a] ∧ SqL K H a (ns.map V.int) ∧ ns.length ≤ 63 ∧ ∀ H', Q (.bl true) H'
theorem ok_law (T : Txt K mg) : FnOk P w K mg base CX0 6 T.f_law T.d_law ["script"] (sp_law K) := by
  refine T.F_law.ok sc_law (fun vs H Q E h => ?_) (fun cdv A outer s H vs Q E hr h => ?_)
  · obtain ⟨a, ns, rfl, _⟩ := h
    rfl
  · obtain ⟨a, ns, rfl, hS, hl, k⟩ := h
    refine ⟨_, (pss_cons (ps_set (i := 1) sc_law.nd rfl (Or.inl rfl) (pe_call (ok_law_draws T) (hr.mono (by decide)) (by rfl) T.g_law_draws T.F_law_draws.kp T.b_law_draws .nil pass0 (pa_cons (pv 0) pa_nil)))
        (pss_cons (ps_set (i := 2) sc_law.nd rfl (Or.inl rfl) (pe_call (ok_law_codes T) (hr.mono (by decide)) (by rfl) T.g_law_codes T.F_law_codes.kp T.b_law_codes .nil pass0 (pa_cons (pv 1) (pa_cons pe_int pa_nil))))
        (pss_cons (ps_set (i := 3) sc_law.nd rfl (Or.inl rfl) (pe_call (ok_law_pieces T) (hr.mono (by decide)) (by rfl) T.g_law_pieces T.F_law_pieces.kp T.b_law_pieces .nil pass0 (pa_cons (pv 1) (pa_cons (pv 2) pa_nil))))
        (pss_cons (ps_set (i := 4) sc_law.nd rfl (Or.inl rfl) (pe_make0 T.m_ShortReader_init (ok_ShortReader_init T) (hr.mono (by decide)) (by rfl) T.gc_ShortReader T.b_ShortReader_init .nil pass0))
        (pss_cons (ps_set (i := 5) sc_law.nd rfl (Or.inl rfl) (pe_make0 T.m_ShortReader_init (ok_ShortReader_init T) (hr.mono (by decide)) (by rfl) T.gc_ShortReader T.b_ShortReader_init .nil pass0))
        (pss_cons (ps_set (i := 6) sc_law.nd rfl (Or.inl rfl) (pe_call0 (ok_law_begun T) (hr.mono (by decide)) (by rfl) T.g_law_begun T.F_law_begun.kp T.b_law_begun .nil pass0))
        (pss_cons (ps_set (i := 7) sc_law.nd rfl (Or.inl rfl) (pe_call0 (ok_law_begun T) (hr.mono (by decide)) (by rfl) T.g_law_begun T.F_law_begun.kp T.b_law_begun .nil pass0))
        (pss_cons (ps_if (pt_not (pt_val (pe_call (ok_law_is_at T) (hr.mono (by decide)) (by rfl) T.g_law_is_at T.F_law_is_at.kp T.b_law_is_at .nil pass0 (pa_cons (pv 4) (pa_cons (pv 6) pa_nil))))) (pss_one (ps_ret pe_bl)) pss_nil)
        (pss_cons (ps_for PassesOwn.never rfl (pi_range1 (by rfl) T.n_range (pa_cons (pe_callB call_len_seq (by rfl) T.n_len (by decide +kernel) (pa_cons (pv 3) pa_nil)) pa_nil)) (pg_name (i := 8) sc_law.nd rfl (Or.inl rfl)) (pss_cons (ps_if (pt_not (pt_val (pe_call (ok_law_feeds T) (hr.mono (by decide)) (by rfl) T.g_law_feeds T.F_law_feeds.kp T.b_law_feeds .nil pass0 (pa_cons (pv 4) (pa_cons (pv 6) (pa_cons (pe_ix ix_list (pv 3) (pv 8) (fun _ _ => rfl)) pa_nil)))))) (pss_one (ps_ret pe_bl)) pss_nil)
        (pss_cons (ps_if (pt_not (pt_val (pe_call (ok_law_feeds T) (hr.mono (by decide)) (by rfl) T.g_law_feeds T.F_law_feeds.kp T.b_law_feeds .nil pass0 (pa_cons (pv 5) (pa_cons (pv 7) (pa_cons (pe_ix ix_list (pv 3) (pe_op op_sub (pe_op op_sub (pe_callB call_len_seq (by rfl) T.n_len (by decide +kernel) (pa_cons (pv 3) pa_nil)) pe_int) (pv 8)) (fun _ _ => rfl)) pa_nil)))))) (pss_one (ps_ret pe_bl)) pss_nil)
        (pss_one (ps_if (pt_not (pt_val (pe_call (ok_law_is_at T) (hr.mono (by decide)) (by rfl) T.g_law_is_at T.F_law_is_at.kp T.b_law_is_at .nil pass0 (pa_cons (pv 4) (pa_cons (pv 6) pa_nil))))) (pss_one (ps_ret pe_bl)) pss_nil)))))
        (pss_one (ps_ret (pe_cmpR (op_eqD hr.units) (pe_meth0 (pv 4) T.cl_ShortReader T.m_ShortReader_image (ok_ShortReader_image T) (hr.mono (by decide)) T.b_ShortReader_image .nil pass0) (pe_call (ok_translate_short T) (hr.mono (by decide)) (by rfl) T.g_translate_short T.F_translate_short.kp T.b_translate_short .nil pass0 (pa_cons (pe_callTy call_list_of (by rfl) T.n_list (by decide +kernel) (pa_cons (pv 2) pa_nil)) pa_nil)) (nomark _))))))))))))), ?_⟩
    -- draws
    refine ⟨_, rfl, a, ns, rfl, hS, hl, fun p H1 hp e1 hD1 => ?_⟩
    -- codes
    refine q_asgP (ep_codes (m := 70) rfl hD1 (by decide)) (fun v H2 hv => ?_)
    obtain ⟨q, cs, rfl, nq, b2, hD2, hq, hcl⟩ := hv
    have nqp : q ≠ p := by
      obtain ⟨ds, h, _⟩ := hD1
      exact Ne.symm (ne_of_none h nq)
    -- pieces
    refine q_asgP (ep_pieces rfl rfl nqp hD2 hq) (fun v H3 hv => ?_)
    obtain ⟨g, as, ps, rfl, ng, nas, b3, hg3, hP3, hF, has⟩ := hv
    have hq3 := b3 _ _ nqp hq
    -- one
    refine q_asgP (P := fun v H' => ∃ x q, v = .ref x ∧ H3 x = none ∧ H3 q = none ∧ RA T.C_ShortReader H' x q s0 ∧ Ex H3 H') (fun Q k1 => fun x dx nx ndx nex => ⟨x, dx, rfl, upd_same, fun q H1 hq hR kp => ⟨rfl, k1 _ H1 ⟨x, q, rfl, nx, ?_, hR, ?_⟩⟩⟩) (fun v H4 hv => ?_)
    · have n1 : q ≠ x := fun e => by rw [e, upd_same] at hq; cases hq
      have n2 : q ≠ dx := fun e => by rw [e, upd_ne nex, upd_same] at hq; cases hq
      rw [upd_ne n1, upd_ne n2] at hq
      exact hq
    · intro b o e
      exact kp b o (ne_of_none e nx) (by rw [upd_ne (ne_of_none e nx), upd_ne (ne_of_none e ndx)]; exact e)
    obtain ⟨x1, q1, rfl, nx1, nq1, hR4, e4⟩ := hv
    -- other
    refine q_asgP (P := fun v H' => ∃ x q, v = .ref x ∧ H4 x = none ∧ H4 q = none ∧ RA T.C_ShortReader H' x q s0 ∧ Ex H4 H') (fun Q k1 => fun x dx nx ndx nex => ⟨x, dx, rfl, upd_same, fun q H1 hq hR kp => ⟨rfl, k1 _ H1 ⟨x, q, rfl, nx, ?_, hR, ?_⟩⟩⟩) (fun v H5 hv => ?_)
    · have n1 : q ≠ x := fun e => by rw [e, upd_same] at hq; cases hq
      have n2 : q ≠ dx := fun e => by rw [e, upd_ne nex, upd_same] at hq; cases hq
      rw [upd_ne n1, upd_ne n2] at hq
      exact hq
    · intro b o e
      exact kp b o (ne_of_none e nx) (by rw [upd_ne (ne_of_none e nx), upd_ne (ne_of_none e ndx)]; exact e)
    obtain ⟨x2, q2, rfl, nx2, nq2, hR5, e5⟩ := hv
    -- first, second
    refine q_asgP ep_begun (fun v H6 hv => ?_)
    obtain ⟨d1, z1, rfl, nd1, nz1, hA6, e6⟩ := hv
    refine q_asgP ep_begun (fun v H7 hv => ?_)
    obtain ⟨d2, z2, rfl, nd2, nz2, hA7, e7⟩ := hv
    -- who is who
    obtain ⟨⟨dx1, hx1⟩, hc1⟩ := id hR4
    obtain ⟨⟨dx2, hx2⟩, hc2⟩ := id hR5
    have o1 := ne_of_none hx1 nx2
    have o2 := ne_of_none hx1 nq2
    have o3 := ne_of_none hc1 nx2
    have o4 := ne_of_none hc1 nq2
    have o5 := ne_of_none (e5 _ _ hx1) nd1
    have o6 := ne_of_none (e5 _ _ hx1) nz1
    have o7 := ne_of_none (e5 _ _ hc1) nd1
    have o8 := ne_of_none (e5 _ _ hc1) nz1
    have o9 := ne_of_none hx2 nd1
    have o10 := ne_of_none hx2 nz1
    have o11 := ne_of_none hc2 nd1
    have o12 := ne_of_none hc2 nz1
    have o13 := ne_of_none (e6 _ _ (e5 _ _ hx1)) nd2
    have o14 := ne_of_none (e6 _ _ (e5 _ _ hx1)) nz2
    have o15 := ne_of_none (e6 _ _ (e5 _ _ hc1)) nd2
    have o16 := ne_of_none (e6 _ _ (e5 _ _ hc1)) nz2
    have o17 := ne_of_none (e6 _ _ hx2) nd2
    have o18 := ne_of_none (e6 _ _ hx2) nz2
    have o19 := ne_of_none (e6 _ _ hc2) nd2
    have o20 := ne_of_none (e6 _ _ hc2) nz2
    have o21 := ne_of_none hA6.1 nd2
    have o22 := ne_of_none hA6.1 nz2
    have o23 := ne_of_none hA6.2 nd2
    have o24 := ne_of_none hA6.2 nz2
    have old : ∀ b o, H3 b = some o → b ∉ [x1, q1, d1, z1] ∧ b ∉ [x2, q2, d2, z2] := fun b o h => by
      have h4 := e4 _ _ h
      have h5 := e5 _ _ h4
      have h6 := e6 _ _ h5
      have p1 := ne_of_none h nx1
      have p2 := ne_of_none h nq1
      have p3 := ne_of_none h4 nx2
      have p4 := ne_of_none h4 nq2
      have p5 := ne_of_none h5 nd1
      have p6 := ne_of_none h5 nz1
      have p7 := ne_of_none h6 nd2
      have p8 := ne_of_none h6 nz2
      simp [p1, p2, p3, p4, p5, p6, p7, p8]
    have e37 := e4.trans (e5.trans (e6.trans e7))
    have hR1 := hR4.ex (e5.trans (e6.trans e7))
    have hR2 := hR5.ex (e6.trans e7)
    have hA1 := hA6.ex e7
    have hA2 := hA7
    refine q_when (b := !true) (et_not (et_B (ev_call (ea_cons (ev_var rfl) (ea_cons (ev_var rfl) ea_nil)) (v_is_at hR1 hA1 (by show 0 ≤ 50000; decide))))) (fun hb => nomatch hb) (fun _ H8 e8 => ?_)
    have e38 := e37.trans e8
    have hg8 := e38 _ _ hg3
    have hlg := ev_len (K := K) (ta := tVar 3) (σ := [some (.ref a), some (.ref p), some (.ref q), some (.ref g), some (.ref x1), some (.ref x2), some (.ref d1), some (.ref d2), none]) (H := H8) (ev_var rfl) (sq_of hg8)
    rw [List.length_map, has] at hlg
    have keep : ∀ {H' : Hp}, Bu [x1, q1, d1, z1, x2, q2, d2, z2] H8 H' → ∀ b o, H3 b = some o → H' b = some o := fun B b o h => B b o (by
      have := old b o h
      simp only [List.mem_cons, List.not_mem_nil, or_false, not_or] at this ⊢
      obtain ⟨⟨h1, h2, h3, h4⟩, h5, h6, h7, h8⟩ := this
      exact ⟨h1, h2, h3, h4, h5, h6, h7, h8⟩) (e38 _ _ h)
    have hpl := hP3.len
    refine q_forR1 (ea_cons hlg ea_nil) (by decide) (fun i σ' H' => RA T.C_ShortReader H' x1 q1 ((ps.take i).flatten.foldl feedS s0) ∧ DA H' d1 z1 ((ps.take i).flatten.foldl feedS s0) ∧ (∃ s2 : SS, RA T.C_ShortReader H' x2 q2 s2 ∧ DA H' d2 z2 s2 ∧ s2.cs.length ≤ 280 * i) ∧ Bu [x1, q1, d1, z1, x2, q2, d2, z2] H8 H' ∧ ∃ y, σ' = [some (.ref a), some (.ref p), some (.ref q), some (.ref g), some (.ref x1), some (.ref x2), some (.ref d1), some (.ref d2), y]) ?_ ?_ ?_
    · intro H9 e9
      exact ⟨hR1.ex (e8.trans e9), hA1.ex (e8.trans e9), ⟨s0, hR2.ex (e8.trans e9), hA2.ex (e8.trans e9), Nat.zero_le _⟩, ex_bu e9, none, rfl⟩
    · rintro i σ' H' hi ⟨hR1', hA1', ⟨s2, hR2', hA2', hz2⟩, B', y, rfl⟩
      have hi9 : i < 9 := by omega
      obtain ⟨a1, l1, ha1, hl1, hm1, hp1⟩ := hP3.at i (by omega)
      obtain ⟨a2, l2, ha2, hl2, hm2, hp2⟩ := hP3.at (8 - i) (by omega)
      have hs1 := run_len ((ps.take i).flatten) s0
      have h00 : s0.cs.length = 0 := rfl
      have hle := len_take_flat ps i
      rw [hF] at hle
      have hll1 := len_flat hl1
      rw [hF] at hll1
      have hll2 := len_flat hl2
      rw [hF] at hll2
      generalize hs1e : (ps.take i).flatten.foldl feedS s0 = s1 at hR1' hA1' hs1
      have hg' := keep B' _ _ hg3
      have hp1' := keep B' _ _ hp1
      refine q_whenP (P2 := fun b H'' => b = false ∧ Fed T.C_ShortReader x1 q1 d1 z1 H' (l1.foldl feedS s1) H'') (etp_not (P1 := fun b H'' => b = true ∧ Fed T.C_ShortReader x1 q1 d1 z1 H' (l1.foldl feedS s1) H'') (etp_B (ep_feeds hR1' hA1' ⟨o5.symm, o7.symm, o6.symm, o8.symm⟩ (old _ _ hp1).1 hp1' (by omega) (ea_cons (ev_var rfl) (ea_cons (ev_var rfl) (ea_cons (ev_op (ev_var rfl) (ev_var rfl) (rv_ixL (sq_of hg') (atI_nat (by rw [List.getElem?_map, ha1]; rfl)))) ea_nil)))) (fun v H'' h => ⟨true, h.1, rfl, h.2⟩)) (fun b H'' h => ⟨by rw [h.1]; rfl, h.2⟩)) (fun H'' h => nomatch h.1) ?_
      rintro H9 ⟨_, hR9, hA9, b9⟩
      have B9 : Bu [x1, q1, d1, z1, x2, q2, d2, z2] H8 H9 := B'.trans (b9.mono (by simp))
      have hg9 := keep B9 _ _ hg3
      have hp2' := keep B9 _ _ hp2
      have hR2'' : RA T.C_ShortReader H9 x2 q2 s2 := by
        obtain ⟨⟨dx, h1⟩, h2⟩ := hR2'
        exact ⟨⟨dx, b9 _ _ (by simp [o1.symm, o3.symm, o9, o10]) h1⟩, b9 _ _ (by simp [o2.symm, o4.symm, o11, o12]) h2⟩
      have hA2'' : DA H9 d2 z2 s2 := ⟨b9 _ _ (by simp [o13.symm, o15.symm, o21.symm, o23.symm]) hA2'.1, b9 _ _ (by simp [o14.symm, o16.symm, o22.symm, o24.symm]) hA2'.2⟩
      have hlg9 := ev_len (K := K) (ta := tVar 3) (σ := [some (.ref a), some (.ref p), some (.ref q), some (.ref g), some (.ref x1), some (.ref x2), some (.ref d1), some (.ref d2), some (.int (i : Int))]) (H := H9) (ev_var rfl) (sq_of hg9)
      rw [List.length_map, has] at hlg9
      refine q_whenP (P2 := fun b H'' => b = false ∧ Fed T.C_ShortReader x2 q2 d2 z2 H9 (l2.foldl feedS s2) H'') (etp_not (P1 := fun b H'' => b = true ∧ Fed T.C_ShortReader x2 q2 d2 z2 H9 (l2.foldl feedS s2) H'') (etp_B (ep_feeds hR2'' hA2'' ⟨o17.symm, o19.symm, o18.symm, o20.symm⟩ (old _ _ hp2).2 hp2' (by omega) (ea_cons (ev_var rfl) (ea_cons (ev_var rfl) (ea_cons (ev_op (ev_var rfl) (ev_op (ev_op hlg9 ev_c rv_I0) (ev_var rfl) rv_I0) (rv_ixL (sq_of hg9) (at_of (j := 8 - i) (by omega) (by rw [List.getElem?_map, ha2]; rfl)))) ea_nil)))) (fun v H'' h => ⟨true, h.1, rfl, h.2⟩)) (fun b H'' h => ⟨by rw [h.1]; rfl, h.2⟩)) (fun H'' h => nomatch h.1) ?_
      rintro H10 ⟨_, hR10, hA10, b10⟩
      have B10 : Bu [x1, q1, d1, z1, x2, q2, d2, z2] H8 H10 := B9.trans (b10.mono (by simp))
      have hR9' : RA T.C_ShortReader H10 x1 q1 (l1.foldl feedS s1) := by
        obtain ⟨⟨dx, h1⟩, h2⟩ := hR9
        exact ⟨⟨dx, b10 _ _ (by simp [o1, o2, o13, o14]) h1⟩, b10 _ _ (by simp [o3, o4, o15, o16]) h2⟩
      have hA9' : DA H10 d1 z1 (l1.foldl feedS s1) := ⟨b10 _ _ (by simp [o9.symm, o11.symm, o21, o22]) hA9.1, b10 _ _ (by simp [o10.symm, o12.symm, o23, o24]) hA9.2⟩
      have hl3 := run_len l1 s1
      have hl4 := run_len l2 s2
      refine s_when (b := !true) (et_not (et_B (ev_call (ea_cons (ev_var rfl) (ea_cons (ev_var rfl) ea_nil)) (v_is_at hR9' hA9' (by omega))))) (fun hb => nomatch hb) (fun _ H11 e11 => ?_)
      rw [take_snocF hl1, List.foldl_append, hs1e]
      exact ⟨hR9'.ex e11, hA9'.ex e11, ⟨l2.foldl feedS s2, hR10.ex e11, hA10.ex e11, by omega⟩, B10.trans (ex_bu e11), some (.int (i : Int)), rfl⟩
    · rintro σ' H9 ⟨hR9, hA9, _, B9, y, rfl⟩
      have hps : ps.take ((9 : Nat) : Int).toNat = ps := List.take_of_length_le (by rw [← hpl, has]; decide)
      rw [hps, hF] at hR9
      have hq9 := keep B9 _ _ hq3
      refine s_ret (v := .bl (decide ((cs.foldl feedS s0).cs = (runS cs).cs))) (ev_opLL (el_image (ev_var rfl) hR9) (el_callL (el_list (ev_var rfl) (sq_of hq9)) (fun r H1 h1 _ => l_translate_short h1 (by omega))) (fun u v H1 hu hv _ => rv_eqL (sq_of hu) (sq_of hv))) (fun H10 _ => ?_)
      rw [show (cs.foldl feedS s0).cs = (runS cs).cs from rfl, decide_eq_true rfl]
      exact k H10
theorem law_at (K : PySem.W.Frag) (H : Hp) (a : Addr) (ns : List Int) (hl : ns.length ≤ 63) (hO : Only H) (hS : SqL K H a (ns.map V.int)) : sp_law K [.ref a] H (fun v _ => v = .bl true) fun _ _ _ => False := ⟨a, ns, rfl, hS, hl, fun _ => rfl⟩
end
/-! ### the head's facts -/
theorem mk_txt {K : PySem.W.Frag} {h : Heap} {mg : Str → Option Value} {p1 p2 p3 p4 p5 p6 p7 p8 p9 p10 p11 p12 p13 p14 p15 p16 p17 p18 p19 p20 p21 p22 p23 p24 C_ShortReader : Addr} (X : K.In h) (G : h.Ns mainGlobals mg)
    {t_COLON t_NOP t_PUSH t_QUOTE t_SPACE t_GREATER : Tok}
    {od1 an1 od2 an2 od3 an3 od4 an4 od5 an5 od6 an6 od7 an7 od8 an8 od9 an9 od10 an10 od11 an11 od12 an12 od13 an13 od14 an14 od15 an15 od16 an16 od17 an17 od18 an18 od19 an19 od20 an20 od21 an21 od22 an22 od23 an23 od24 an24 : Option Addr} {sl1 sl2 sl3 sl4 sl5 sl6 sl7 sl8 sl9 sl10 sl11 sl12 sl13 sl14 sl15 sl16 sl17 sl18 sl19 sl20 sl21 sl22 sl23 sl24 : Array (Option Value)}
    {oc1 kV1 dc1 pm1 cd1 ct1 oc2 kV2 dc2 pm2 cd2 ct2 oc3 kV3 dc3 pm3 cd3 ct3 oc4 kV4 dc4 pm4 cd4 ct4 oc5 kV5 dc5 pm5 cd5 ct5 oc6 kV6 dc6 pm6 cd6 ct6 oc7 kV7 dc7 pm7 cd7 ct7 oc8 kV8 dc8 pm8 cd8 ct8 oc9 kV9 dc9 pm9 cd9 ct9 oc10 kV10 dc10 pm10 cd10 ct10 oc11 kV11 dc11 pm11 cd11 ct11 oc12 kV12 dc12 pm12 cd12 ct12 oc13 kV13 dc13 pm13 cd13 ct13 oc14 kV14 dc14 pm14 cd14 ct14 oc15 kV15 dc15 pm15 cd15 ct15 oc16 kV16 dc16 pm16 cd16 ct16 oc17 kV17 dc17 pm17 cd17 ct17 oc18 kV18 dc18 pm18 cd18 ct18 oc19 kV19 dc19 pm19 cd19 ct19 oc20 kV20 dc20 pm20 cd20 ct20 oc21 kV21 dc21 pm21 cd21 ct21 oc22 kV22 dc22 pm22 cd22 ct22 oc23 kV23 dc23 pm23 cd23 ct23 oc24 kV24 dc24 pm24 cd24 ct24 : Value}
    (g_ShortReader : PySem.W.nsIn K mainGlobals "ShortReader" = some (some (.ref C_ShortReader)))
    (a1 : PySem.W.nsIn K mainGlobals "is_digit" = some (some (.ref p1)))
    (l1 : K.lookup p1 = some ⟨oc1, od1, .func (PySem.W.fnOf "is_digit" "is_digit" (defArgs s_is_digit) (defBody s_is_digit) (defScope s_is_digit) .none kV1 dc1 pm1 an1 cd1 ct1), sl1⟩)
    (c1 : PySem.W.codeIn K cd1 "is_digit" = true)
    (k1 : PySem.W.keepIn K (.ref p1) = true)
    (a2 : PySem.W.nsIn K mainGlobals "with_digit" = some (some (.ref p2)))
    (l2 : K.lookup p2 = some ⟨oc2, od2, .func (PySem.W.fnOf "with_digit" "with_digit" (defArgs s_with_digit) (defBody s_with_digit) (defScope s_with_digit) .none kV2 dc2 pm2 an2 cd2 ct2), sl2⟩)
    (c2 : PySem.W.codeIn K cd2 "with_digit" = true)
    (k2 : PySem.W.keepIn K (.ref p2) = true)
    (a3 : PySem.W.findIn K (.ref C_ShortReader) "__init__" = some (some (.ref p3)))
    (i3 : PySem.W.isFn K (.ref p3) = true)
    (l3 : K.lookup p3 = some ⟨oc3, od3, .func (PySem.W.fnOf "__init__" "ShortReader.__init__" (defArgs s_ShortReader_init) (defBody s_ShortReader_init) (defScope s_ShortReader_init) .none kV3 dc3 pm3 an3 cd3 ct3), sl3⟩)
    (c3 : PySem.W.codeIn K cd3 "ShortReader.__init__" = true)
    (k3 : PySem.W.keepIn K (.ref p3) = true)
    (a4 : PySem.W.findIn K (.ref C_ShortReader) "feed" = some (some (.ref p4)))
    (i4 : PySem.W.isFn K (.ref p4) = true)
    (l4 : K.lookup p4 = some ⟨oc4, od4, .func (PySem.W.fnOf "feed" "ShortReader.feed" (defArgs s_ShortReader_feed) (defBody s_ShortReader_feed) (defScope s_ShortReader_feed) .none kV4 dc4 pm4 an4 cd4 ct4), sl4⟩)
    (c4 : PySem.W.codeIn K cd4 "ShortReader.feed" = true)
    (k4 : PySem.W.keepIn K (.ref p4) = true)
    (a5 : PySem.W.findIn K (.ref C_ShortReader) "image" = some (some (.ref p5)))
    (i5 : PySem.W.isFn K (.ref p5) = true)
    (l5 : K.lookup p5 = some ⟨oc5, od5, .func (PySem.W.fnOf "image" "ShortReader.image" (defArgs s_ShortReader_image) (defBody s_ShortReader_image) (defScope s_ShortReader_image) .none kV5 dc5 pm5 an5 cd5 ct5), sl5⟩)
    (c5 : PySem.W.codeIn K cd5 "ShortReader.image" = true)
    (k5 : PySem.W.keepIn K (.ref p5) = true)
    (a6 : PySem.W.findIn K (.ref C_ShortReader) "_take" = some (some (.ref p6)))
    (i6 : PySem.W.isFn K (.ref p6) = true)
    (l6 : K.lookup p6 = some ⟨oc6, od6, .func (PySem.W.fnOf "_take" "ShortReader._take" (defArgs s_ShortReader_take) (defBody s_ShortReader_take) (defScope s_ShortReader_take) .none kV6 dc6 pm6 an6 cd6 ct6), sl6⟩)
    (c6 : PySem.W.codeIn K cd6 "ShortReader._take" = true)
    (k6 : PySem.W.keepIn K (.ref p6) = true)
    (a7 : PySem.W.findIn K (.ref C_ShortReader) "_take_sign" = some (some (.ref p7)))
    (i7 : PySem.W.isFn K (.ref p7) = true)
    (l7 : K.lookup p7 = some ⟨oc7, od7, .func (PySem.W.fnOf "_take_sign" "ShortReader._take_sign" (defArgs s_ShortReader_take_sign) (defBody s_ShortReader_take_sign) (defScope s_ShortReader_take_sign) .none kV7 dc7 pm7 an7 cd7 ct7), sl7⟩)
    (c7 : PySem.W.codeIn K cd7 "ShortReader._take_sign" = true)
    (k7 : PySem.W.keepIn K (.ref p7) = true)
    (a8 : PySem.W.findIn K (.ref C_ShortReader) "_emit" = some (some (.ref p8)))
    (i8 : PySem.W.isFn K (.ref p8) = true)
    (l8 : K.lookup p8 = some ⟨oc8, od8, .func (PySem.W.fnOf "_emit" "ShortReader._emit" (defArgs s_ShortReader_emit) (defBody s_ShortReader_emit) (defScope s_ShortReader_emit) .none kV8 dc8 pm8 an8 cd8 ct8), sl8⟩)
    (c8 : PySem.W.codeIn K cd8 "ShortReader._emit" = true)
    (k8 : PySem.W.keepIn K (.ref p8) = true)
    (a9 : PySem.W.nsIn K mainGlobals "translate_short" = some (some (.ref p9)))
    (l9 : K.lookup p9 = some ⟨oc9, od9, .func (PySem.W.fnOf "translate_short" "translate_short" (defArgs s_translate_short) (defBody s_translate_short) (defScope s_translate_short) .none kV9 dc9 pm9 an9 cd9 ct9), sl9⟩)
    (c9 : PySem.W.codeIn K cd9 "translate_short" = true)
    (k9 : PySem.W.keepIn K (.ref p9) = true)
    (a10 : PySem.W.nsIn K mainGlobals "_law_number" = some (some (.ref p10)))
    (l10 : K.lookup p10 = some ⟨oc10, od10, .func (PySem.W.fnOf "_law_number" "_law_number" (defArgs s_law_number) (defBody s_law_number) (defScope s_law_number) .none kV10 dc10 pm10 an10 cd10 ct10), sl10⟩)
    (c10 : PySem.W.codeIn K cd10 "_law_number" = true)
    (k10 : PySem.W.keepIn K (.ref p10) = true)
    (a11 : PySem.W.nsIn K mainGlobals "_law_draws" = some (some (.ref p11)))
    (l11 : K.lookup p11 = some ⟨oc11, od11, .func (PySem.W.fnOf "_law_draws" "_law_draws" (defArgs s_law_draws) (defBody s_law_draws) (defScope s_law_draws) .none kV11 dc11 pm11 an11 cd11 ct11), sl11⟩)
    (c11 : PySem.W.codeIn K cd11 "_law_draws" = true)
    (k11 : PySem.W.keepIn K (.ref p11) = true)
    (a12 : PySem.W.nsIn K mainGlobals "_law_draw" = some (some (.ref p12)))
    (l12 : K.lookup p12 = some ⟨oc12, od12, .func (PySem.W.fnOf "_law_draw" "_law_draw" (defArgs s_law_draw) (defBody s_law_draw) (defScope s_law_draw) .none kV12 dc12 pm12 an12 cd12 ct12), sl12⟩)
    (c12 : PySem.W.codeIn K cd12 "_law_draw" = true)
    (k12 : PySem.W.keepIn K (.ref p12) = true)
    (a13 : PySem.W.nsIn K mainGlobals "_law_pick" = some (some (.ref p13)))
    (l13 : K.lookup p13 = some ⟨oc13, od13, .func (PySem.W.fnOf "_law_pick" "_law_pick" (defArgs s_law_pick) (defBody s_law_pick) (defScope s_law_pick) .none kV13 dc13 pm13 an13 cd13 ct13), sl13⟩)
    (c13 : PySem.W.codeIn K cd13 "_law_pick" = true)
    (k13 : PySem.W.keepIn K (.ref p13) = true)
    (a14 : PySem.W.nsIn K mainGlobals "_law_is_integer" = some (some (.ref p14)))
    (l14 : K.lookup p14 = some ⟨oc14, od14, .func (PySem.W.fnOf "_law_is_integer" "_law_is_integer" (defArgs s_law_is_integer) (defBody s_law_is_integer) (defScope s_law_is_integer) .none kV14 dc14 pm14 an14 cd14 ct14), sl14⟩)
    (c14 : PySem.W.codeIn K cd14 "_law_is_integer" = true)
    (k14 : PySem.W.keepIn K (.ref p14) = true)
    (a15 : PySem.W.nsIn K mainGlobals "_law_is_cells" = some (some (.ref p15)))
    (l15 : K.lookup p15 = some ⟨oc15, od15, .func (PySem.W.fnOf "_law_is_cells" "_law_is_cells" (defArgs s_law_is_cells) (defBody s_law_is_cells) (defScope s_law_is_cells) .none kV15 dc15 pm15 an15 cd15 ct15), sl15⟩)
    (c15 : PySem.W.codeIn K cd15 "_law_is_cells" = true)
    (k15 : PySem.W.keepIn K (.ref p15) = true)
    (a16 : PySem.W.nsIn K mainGlobals "_law_code" = some (some (.ref p16)))
    (l16 : K.lookup p16 = some ⟨oc16, od16, .func (PySem.W.fnOf "_law_code" "_law_code" (defArgs s_law_code) (defBody s_law_code) (defScope s_law_code) .none kV16 dc16 pm16 an16 cd16 ct16), sl16⟩)
    (c16 : PySem.W.codeIn K cd16 "_law_code" = true)
    (k16 : PySem.W.keepIn K (.ref p16) = true)
    (a17 : PySem.W.nsIn K mainGlobals "_law_codes" = some (some (.ref p17)))
    (l17 : K.lookup p17 = some ⟨oc17, od17, .func (PySem.W.fnOf "_law_codes" "_law_codes" (defArgs s_law_codes) (defBody s_law_codes) (defScope s_law_codes) .none kV17 dc17 pm17 an17 cd17 ct17), sl17⟩)
    (c17 : PySem.W.codeIn K cd17 "_law_codes" = true)
    (k17 : PySem.W.keepIn K (.ref p17) = true)
    (a18 : PySem.W.nsIn K mainGlobals "_law_step" = some (some (.ref p18)))
    (l18 : K.lookup p18 = some ⟨oc18, od18, .func (PySem.W.fnOf "_law_step" "_law_step" (defArgs s_law_step) (defBody s_law_step) (defScope s_law_step) .none kV18 dc18 pm18 an18 cd18 ct18), sl18⟩)
    (c18 : PySem.W.codeIn K cd18 "_law_step" = true)
    (k18 : PySem.W.keepIn K (.ref p18) = true)
    (a19 : PySem.W.nsIn K mainGlobals "_law_emit" = some (some (.ref p19)))
    (l19 : K.lookup p19 = some ⟨oc19, od19, .func (PySem.W.fnOf "_law_emit" "_law_emit" (defArgs s_law_emit) (defBody s_law_emit) (defScope s_law_emit) .none kV19 dc19 pm19 an19 cd19 ct19), sl19⟩)
    (c19 : PySem.W.codeIn K cd19 "_law_emit" = true)
    (k19 : PySem.W.keepIn K (.ref p19) = true)
    (a20 : PySem.W.nsIn K mainGlobals "_law_begun" = some (some (.ref p20)))
    (l20 : K.lookup p20 = some ⟨oc20, od20, .func (PySem.W.fnOf "_law_begun" "_law_begun" (defArgs s_law_begun) (defBody s_law_begun) (defScope s_law_begun) .none kV20 dc20 pm20 an20 cd20 ct20), sl20⟩)
    (c20 : PySem.W.codeIn K cd20 "_law_begun" = true)
    (k20 : PySem.W.keepIn K (.ref p20) = true)
    (a21 : PySem.W.nsIn K mainGlobals "_law_pieces" = some (some (.ref p21)))
    (l21 : K.lookup p21 = some ⟨oc21, od21, .func (PySem.W.fnOf "_law_pieces" "_law_pieces" (defArgs s_law_pieces) (defBody s_law_pieces) (defScope s_law_pieces) .none kV21 dc21 pm21 an21 cd21 ct21), sl21⟩)
    (c21 : PySem.W.codeIn K cd21 "_law_pieces" = true)
    (k21 : PySem.W.keepIn K (.ref p21) = true)
    (a22 : PySem.W.nsIn K mainGlobals "_law_is_at" = some (some (.ref p22)))
    (l22 : K.lookup p22 = some ⟨oc22, od22, .func (PySem.W.fnOf "_law_is_at" "_law_is_at" (defArgs s_law_is_at) (defBody s_law_is_at) (defScope s_law_is_at) .none kV22 dc22 pm22 an22 cd22 ct22), sl22⟩)
    (c22 : PySem.W.codeIn K cd22 "_law_is_at" = true)
    (k22 : PySem.W.keepIn K (.ref p22) = true)
    (a23 : PySem.W.nsIn K mainGlobals "_law_feeds" = some (some (.ref p23)))
    (l23 : K.lookup p23 = some ⟨oc23, od23, .func (PySem.W.fnOf "_law_feeds" "_law_feeds" (defArgs s_law_feeds) (defBody s_law_feeds) (defScope s_law_feeds) .none kV23 dc23 pm23 an23 cd23 ct23), sl23⟩)
    (c23 : PySem.W.codeIn K cd23 "_law_feeds" = true)
    (k23 : PySem.W.keepIn K (.ref p23) = true)
    (a24 : PySem.W.nsIn K mainGlobals "law" = some (some (.ref p24)))
    (l24 : K.lookup p24 = some ⟨oc24, od24, .func (PySem.W.fnOf "law" "law" (defArgs s_law) (defBody s_law) (defScope s_law) .none kV24 dc24 pm24 an24 cd24 ct24), sl24⟩)
    (c24 : PySem.W.codeIn K cd24 "law" = true)
    (k24 : PySem.W.keepIn K (.ref p24) = true)
    (pg_ShortReader : PySem.W.plainGet K C_ShortReader Str.empty = true)
    (hd_ShortReader : PySem.W.hasDictIn K C_ShortReader = true)
    (po_ShortReader : PySem.W.plainOver K C_ShortReader = true)
    (sa_ShortReader : PySem.W.findIn K (.ref C_ShortReader) "__setattr__" = some (some (.builtin "object.__setattr__")))
    (mk_ShortReader : PySem.W.makesIn K C_ShortReader = true)
    (kc_ShortReader : PySem.W.keepIn K (.ref C_ShortReader) = true)
    (na_ShortReader_m : PySem.W.findIn K (.ref C_ShortReader) "m" = some none)
    (na_ShortReader_r : PySem.W.findIn K (.ref C_ShortReader) "r" = some none)
    (na_ShortReader_waiting : PySem.W.findIn K (.ref C_ShortReader) "waiting" = some none)
    (na_ShortReader_finished : PySem.W.findIn K (.ref C_ShortReader) "finished" = some none)
    (na_ShortReader_cells : PySem.W.findIn K (.ref C_ShortReader) "_cells" = some none)
    (c_COLON : PySem.W.nsIn K mainGlobals "COLON" = some (some (.int 58 t_COLON)))
    (c_NOP : PySem.W.nsIn K mainGlobals "NOP" = some (some (.int 32 t_NOP)))
    (c_PUSH : PySem.W.nsIn K mainGlobals "PUSH" = some (some (.int 35 t_PUSH)))
    (c_QUOTE : PySem.W.nsIn K mainGlobals "QUOTE" = some (some (.int 39 t_QUOTE)))
    (c_SPACE : PySem.W.nsIn K mainGlobals "SPACE" = some (some (.int 32 t_SPACE)))
    (c_GREATER : PySem.W.nsIn K mainGlobals "_GREATER" = some (some (.int 62 t_GREATER)))
    (n_bool : PySem.W.nsIn K mainGlobals "bool" = some none)
    (n_int : PySem.W.nsIn K mainGlobals "int" = some none)
    (n_isinstance : PySem.W.nsIn K mainGlobals "isinstance" = some none)
    (n_len : PySem.W.nsIn K mainGlobals "len" = some none)
    (n_list : PySem.W.nsIn K mainGlobals "list" = some none)
    (n_range : PySem.W.nsIn K mainGlobals "range" = some none)
    : ∃ T : Txt K mg, T.f_law = p24 := by
  exact ⟨{
      C_ShortReader := C_ShortReader
      f_is_digit := p1
      d_is_digit := _
      F_is_digit := fun_mk (st := s_is_digit) l1 c1 k1
      b_is_digit := (fun_mk (st := s_is_digit) l1 c1 k1).binds (ps := ["code"]) fun _ _ _ _ _ _ us hl => match us, hl with | [_], _ => rfl
      g_is_digit := PySem.W.mg_of X G a1
      f_with_digit := p2
      d_with_digit := _
      F_with_digit := fun_mk (st := s_with_digit) l2 c2 k2
      b_with_digit := (fun_mk (st := s_with_digit) l2 c2 k2).binds (ps := ["number", "code"]) fun _ _ _ _ _ _ us hl => match us, hl with | [_, _], _ => rfl
      g_with_digit := PySem.W.mg_of X G a2
      f_ShortReader_init := p3
      d_ShortReader_init := _
      F_ShortReader_init := fun_mk (st := s_ShortReader_init) l3 c3 k3
      b_ShortReader_init := (fun_mk (st := s_ShortReader_init) l3 c3 k3).binds (ps := ["self"]) fun _ _ _ _ _ _ us hl => match us, hl with | [_], _ => rfl
      m_ShortReader_init := ⟨mk_ShortReader, a3, i3, kc_ShortReader⟩
      f_ShortReader_feed := p4
      d_ShortReader_feed := _
      F_ShortReader_feed := fun_mk (st := s_ShortReader_feed) l4 c4 k4
      b_ShortReader_feed := (fun_mk (st := s_ShortReader_feed) l4 c4 k4).binds (ps := ["self", "codes"]) fun _ _ _ _ _ _ us hl => match us, hl with | [_, _], _ => rfl
      m_ShortReader_feed := ⟨a4, i4, k4⟩
      f_ShortReader_image := p5
      d_ShortReader_image := _
      F_ShortReader_image := fun_mk (st := s_ShortReader_image) l5 c5 k5
      b_ShortReader_image := (fun_mk (st := s_ShortReader_image) l5 c5 k5).binds (ps := ["self"]) fun _ _ _ _ _ _ us hl => match us, hl with | [_], _ => rfl
      m_ShortReader_image := ⟨a5, i5, k5⟩
      f_ShortReader_take := p6
      d_ShortReader_take := _
      F_ShortReader_take := fun_mk (st := s_ShortReader_take) l6 c6 k6
      b_ShortReader_take := (fun_mk (st := s_ShortReader_take) l6 c6 k6).binds (ps := ["self", "code"]) fun _ _ _ _ _ _ us hl => match us, hl with | [_, _], _ => rfl
      m_ShortReader_take := ⟨a6, i6, k6⟩
      f_ShortReader_take_sign := p7
      d_ShortReader_take_sign := _
      F_ShortReader_take_sign := fun_mk (st := s_ShortReader_take_sign) l7 c7 k7
      b_ShortReader_take_sign := (fun_mk (st := s_ShortReader_take_sign) l7 c7 k7).binds (ps := ["self", "code"]) fun _ _ _ _ _ _ us hl => match us, hl with | [_, _], _ => rfl
      m_ShortReader_take_sign := ⟨a7, i7, k7⟩
      f_ShortReader_emit := p8
      d_ShortReader_emit := _
      F_ShortReader_emit := fun_mk (st := s_ShortReader_emit) l8 c8 k8
      b_ShortReader_emit := (fun_mk (st := s_ShortReader_emit) l8 c8 k8).binds (ps := ["self", "operation", "argument", "successor"]) fun _ _ _ _ _ _ us hl => match us, hl with | [_, _, _, _], _ => rfl
      m_ShortReader_emit := ⟨a8, i8, k8⟩
      f_translate_short := p9
      d_translate_short := _
      F_translate_short := fun_mk (st := s_translate_short) l9 c9 k9
      b_translate_short := (fun_mk (st := s_translate_short) l9 c9 k9).binds (ps := ["codes"]) fun _ _ _ _ _ _ us hl => match us, hl with | [_], _ => rfl
      g_translate_short := PySem.W.mg_of X G a9
      f_law_number := p10
      d_law_number := _
      F_law_number := fun_mk (st := s_law_number) l10 c10 k10
      b_law_number := (fun_mk (st := s_law_number) l10 c10 k10).binds (ps := ["cell"]) fun _ _ _ _ _ _ us hl => match us, hl with | [_], _ => rfl
      g_law_number := PySem.W.mg_of X G a10
      f_law_draws := p11
      d_law_draws := _
      F_law_draws := fun_mk (st := s_law_draws) l11 c11 k11
      b_law_draws := (fun_mk (st := s_law_draws) l11 c11 k11).binds (ps := ["script"]) fun _ _ _ _ _ _ us hl => match us, hl with | [_], _ => rfl
      g_law_draws := PySem.W.mg_of X G a11
      f_law_draw := p12
      d_law_draw := _
      F_law_draw := fun_mk (st := s_law_draw) l12 c12 k12
      b_law_draw := (fun_mk (st := s_law_draw) l12 c12 k12).binds (ps := ["draws"]) fun _ _ _ _ _ _ us hl => match us, hl with | [_], _ => rfl
      g_law_draw := PySem.W.mg_of X G a12
      f_law_pick := p13
      d_law_pick := _
      F_law_pick := fun_mk (st := s_law_pick) l13 c13 k13
      b_law_pick := (fun_mk (st := s_law_pick) l13 c13 k13).binds (ps := ["draws", "many"]) fun _ _ _ _ _ _ us hl => match us, hl with | [_, _], _ => rfl
      g_law_pick := PySem.W.mg_of X G a13
      f_law_is_integer := p14
      d_law_is_integer := _
      F_law_is_integer := fun_mk (st := s_law_is_integer) l14 c14 k14
      b_law_is_integer := (fun_mk (st := s_law_is_integer) l14 c14 k14).binds (ps := ["actual"]) fun _ _ _ _ _ _ us hl => match us, hl with | [_], _ => rfl
      g_law_is_integer := PySem.W.mg_of X G a14
      f_law_is_cells := p15
      d_law_is_cells := _
      F_law_is_cells := fun_mk (st := s_law_is_cells) l15 c15 k15
      b_law_is_cells := (fun_mk (st := s_law_is_cells) l15 c15 k15).binds (ps := ["actual"]) fun _ _ _ _ _ _ us hl => match us, hl with | [_], _ => rfl
      g_law_is_cells := PySem.W.mg_of X G a15
      f_law_code := p16
      d_law_code := _
      F_law_code := fun_mk (st := s_law_code) l16 c16 k16
      b_law_code := (fun_mk (st := s_law_code) l16 c16 k16).binds (ps := ["draws"]) fun _ _ _ _ _ _ us hl => match us, hl with | [_], _ => rfl
      g_law_code := PySem.W.mg_of X G a16
      f_law_codes := p17
      d_law_codes := _
      F_law_codes := fun_mk (st := s_law_codes) l17 c17 k17
      b_law_codes := (fun_mk (st := s_law_codes) l17 c17 k17).binds (ps := ["draws", "many"]) fun _ _ _ _ _ _ us hl => match us, hl with | [_, _], _ => rfl
      g_law_codes := PySem.W.mg_of X G a17
      f_law_step := p18
      d_law_step := _
      F_law_step := fun_mk (st := s_law_step) l18 c18 k18
      b_law_step := (fun_mk (st := s_law_step) l18 c18 k18).binds (ps := ["state", "code"]) fun _ _ _ _ _ _ us hl => match us, hl with | [_, _], _ => rfl
      g_law_step := PySem.W.mg_of X G a18
      f_law_emit := p19
      d_law_emit := _
      F_law_emit := fun_mk (st := s_law_emit) l19 c19 k19
      b_law_emit := (fun_mk (st := s_law_emit) l19 c19 k19).binds (ps := ["state", "op", "arg", "successor"]) fun _ _ _ _ _ _ us hl => match us, hl with | [_, _, _, _], _ => rfl
      g_law_emit := PySem.W.mg_of X G a19
      f_law_begun := p20
      d_law_begun := _
      F_law_begun := fun_mk (st := s_law_begun) l20 c20 k20
      b_law_begun := (fun_mk (st := s_law_begun) l20 c20 k20).binds (ps := []) fun _ _ _ _ _ _ us hl => match us, hl with | [], _ => rfl
      g_law_begun := PySem.W.mg_of X G a20
      f_law_pieces := p21
      d_law_pieces := _
      F_law_pieces := fun_mk (st := s_law_pieces) l21 c21 k21
      b_law_pieces := (fun_mk (st := s_law_pieces) l21 c21 k21).binds (ps := ["draws", "codes"]) fun _ _ _ _ _ _ us hl => match us, hl with | [_, _], _ => rfl
      g_law_pieces := PySem.W.mg_of X G a21
      f_law_is_at := p22
      d_law_is_at := _
      F_law_is_at := fun_mk (st := s_law_is_at) l22 c22 k22
      b_law_is_at := (fun_mk (st := s_law_is_at) l22 c22 k22).binds (ps := ["reader", "state"]) fun _ _ _ _ _ _ us hl => match us, hl with | [_, _], _ => rfl
      g_law_is_at := PySem.W.mg_of X G a22
      f_law_feeds := p23
      d_law_feeds := _
      F_law_feeds := fun_mk (st := s_law_feeds) l23 c23 k23
      b_law_feeds := (fun_mk (st := s_law_feeds) l23 c23 k23).binds (ps := ["reader", "state", "piece"]) fun _ _ _ _ _ _ us hl => match us, hl with | [_, _, _], _ => rfl
      g_law_feeds := PySem.W.mg_of X G a23
      f_law := p24
      d_law := _
      F_law := fun_mk (st := s_law) l24 c24 k24
      b_law := (fun_mk (st := s_law) l24 c24 k24).binds (ps := ["script"]) fun _ _ _ _ _ _ us hl => match us, hl with | [_], _ => rfl
      g_law := PySem.W.mg_of X G a24
      h_law := fun s v => .of_eq rfl
      gc_ShortReader := PySem.W.mg_of X G g_ShortReader
      cl_ShortReader := ⟨pg_ShortReader, hd_ShortReader, po_ShortReader, sa_ShortReader⟩
      na_ShortReader_m := na_ShortReader_m
      na_ShortReader_r := na_ShortReader_r
      na_ShortReader_waiting := na_ShortReader_waiting
      na_ShortReader_finished := na_ShortReader_finished
      na_ShortReader_cells := na_ShortReader_cells
      t_COLON := t_COLON
      c_COLON := PySem.W.mg_of X G c_COLON
      t_NOP := t_NOP
      c_NOP := PySem.W.mg_of X G c_NOP
      t_PUSH := t_PUSH
      c_PUSH := PySem.W.mg_of X G c_PUSH
      t_QUOTE := t_QUOTE
      c_QUOTE := PySem.W.mg_of X G c_QUOTE
      t_SPACE := t_SPACE
      c_SPACE := PySem.W.mg_of X G c_SPACE
      t_GREATER := t_GREATER
      c_GREATER := PySem.W.mg_of X G c_GREATER
      n_bool := PySem.W.mg_none_of X G n_bool
      n_int := PySem.W.mg_none_of X G n_int
      n_isinstance := PySem.W.mg_none_of X G n_isinstance
      n_len := PySem.W.mg_none_of X G n_len
      n_list := PySem.W.mg_none_of X G n_list
      n_range := PySem.W.mg_none_of X G n_range }, rfl⟩
theorem all_mk {l : PySem.W.OpenLaw} {w : World} {K : PySem.W.Frag} {h : Heap} {mg : Str → Option Value} {fa p1 p2 p3 p4 p5 p6 p7 p8 p9 p10 p11 p12 p13 p14 p15 p16 p17 p18 p19 p20 p21 p22 p23 p24 C_ShortReader : Addr} (X : K.In h) (G : h.Ns mainGlobals mg) (hfa : mg "law" = some (.ref fa))
    {t_COLON t_NOP t_PUSH t_QUOTE t_SPACE t_GREATER : Tok}
    {od1 an1 od2 an2 od3 an3 od4 an4 od5 an5 od6 an6 od7 an7 od8 an8 od9 an9 od10 an10 od11 an11 od12 an12 od13 an13 od14 an14 od15 an15 od16 an16 od17 an17 od18 an18 od19 an19 od20 an20 od21 an21 od22 an22 od23 an23 od24 an24 : Option Addr} {sl1 sl2 sl3 sl4 sl5 sl6 sl7 sl8 sl9 sl10 sl11 sl12 sl13 sl14 sl15 sl16 sl17 sl18 sl19 sl20 sl21 sl22 sl23 sl24 : Array (Option Value)}
    {oc1 kV1 dc1 pm1 cd1 ct1 oc2 kV2 dc2 pm2 cd2 ct2 oc3 kV3 dc3 pm3 cd3 ct3 oc4 kV4 dc4 pm4 cd4 ct4 oc5 kV5 dc5 pm5 cd5 ct5 oc6 kV6 dc6 pm6 cd6 ct6 oc7 kV7 dc7 pm7 cd7 ct7 oc8 kV8 dc8 pm8 cd8 ct8 oc9 kV9 dc9 pm9 cd9 ct9 oc10 kV10 dc10 pm10 cd10 ct10 oc11 kV11 dc11 pm11 cd11 ct11 oc12 kV12 dc12 pm12 cd12 ct12 oc13 kV13 dc13 pm13 cd13 ct13 oc14 kV14 dc14 pm14 cd14 ct14 oc15 kV15 dc15 pm15 cd15 ct15 oc16 kV16 dc16 pm16 cd16 ct16 oc17 kV17 dc17 pm17 cd17 ct17 oc18 kV18 dc18 pm18 cd18 ct18 oc19 kV19 dc19 pm19 cd19 ct19 oc20 kV20 dc20 pm20 cd20 ct20 oc21 kV21 dc21 pm21 cd21 ct21 oc22 kV22 dc22 pm22 cd22 ct22 oc23 kV23 dc23 pm23 cd23 ct23 oc24 kV24 dc24 pm24 cd24 ct24 : Value}
    (g_ShortReader : PySem.W.nsIn K mainGlobals "ShortReader" = some (some (.ref C_ShortReader)))
    (a1 : PySem.W.nsIn K mainGlobals "is_digit" = some (some (.ref p1)))
    (l1 : K.lookup p1 = some ⟨oc1, od1, .func (PySem.W.fnOf "is_digit" "is_digit" (defArgs s_is_digit) (defBody s_is_digit) (defScope s_is_digit) .none kV1 dc1 pm1 an1 cd1 ct1), sl1⟩)
    (c1 : PySem.W.codeIn K cd1 "is_digit" = true)
    (k1 : PySem.W.keepIn K (.ref p1) = true)
    (a2 : PySem.W.nsIn K mainGlobals "with_digit" = some (some (.ref p2)))
    (l2 : K.lookup p2 = some ⟨oc2, od2, .func (PySem.W.fnOf "with_digit" "with_digit" (defArgs s_with_digit) (defBody s_with_digit) (defScope s_with_digit) .none kV2 dc2 pm2 an2 cd2 ct2), sl2⟩)
    (c2 : PySem.W.codeIn K cd2 "with_digit" = true)
    (k2 : PySem.W.keepIn K (.ref p2) = true)
    (a3 : PySem.W.findIn K (.ref C_ShortReader) "__init__" = some (some (.ref p3)))
    (i3 : PySem.W.isFn K (.ref p3) = true)
    (l3 : K.lookup p3 = some ⟨oc3, od3, .func (PySem.W.fnOf "__init__" "ShortReader.__init__" (defArgs s_ShortReader_init) (defBody s_ShortReader_init) (defScope s_ShortReader_init) .none kV3 dc3 pm3 an3 cd3 ct3), sl3⟩)
    (c3 : PySem.W.codeIn K cd3 "ShortReader.__init__" = true)
    (k3 : PySem.W.keepIn K (.ref p3) = true)
    (a4 : PySem.W.findIn K (.ref C_ShortReader) "feed" = some (some (.ref p4)))
    (i4 : PySem.W.isFn K (.ref p4) = true)
    (l4 : K.lookup p4 = some ⟨oc4, od4, .func (PySem.W.fnOf "feed" "ShortReader.feed" (defArgs s_ShortReader_feed) (defBody s_ShortReader_feed) (defScope s_ShortReader_feed) .none kV4 dc4 pm4 an4 cd4 ct4), sl4⟩)
    (c4 : PySem.W.codeIn K cd4 "ShortReader.feed" = true)
    (k4 : PySem.W.keepIn K (.ref p4) = true)
    (a5 : PySem.W.findIn K (.ref C_ShortReader) "image" = some (some (.ref p5)))
    (i5 : PySem.W.isFn K (.ref p5) = true)
    (l5 : K.lookup p5 = some ⟨oc5, od5, .func (PySem.W.fnOf "image" "ShortReader.image" (defArgs s_ShortReader_image) (defBody s_ShortReader_image) (defScope s_ShortReader_image) .none kV5 dc5 pm5 an5 cd5 ct5), sl5⟩)
    (c5 : PySem.W.codeIn K cd5 "ShortReader.image" = true)
    (k5 : PySem.W.keepIn K (.ref p5) = true)
    (a6 : PySem.W.findIn K (.ref C_ShortReader) "_take" = some (some (.ref p6)))
    (i6 : PySem.W.isFn K (.ref p6) = true)
    (l6 : K.lookup p6 = some ⟨oc6, od6, .func (PySem.W.fnOf "_take" "ShortReader._take" (defArgs s_ShortReader_take) (defBody s_ShortReader_take) (defScope s_ShortReader_take) .none kV6 dc6 pm6 an6 cd6 ct6), sl6⟩)
    (c6 : PySem.W.codeIn K cd6 "ShortReader._take" = true)
    (k6 : PySem.W.keepIn K (.ref p6) = true)
    (a7 : PySem.W.findIn K (.ref C_ShortReader) "_take_sign" = some (some (.ref p7)))
    (i7 : PySem.W.isFn K (.ref p7) = true)
    (l7 : K.lookup p7 = some ⟨oc7, od7, .func (PySem.W.fnOf "_take_sign" "ShortReader._take_sign" (defArgs s_ShortReader_take_sign) (defBody s_ShortReader_take_sign) (defScope s_ShortReader_take_sign) .none kV7 dc7 pm7 an7 cd7 ct7), sl7⟩)
    (c7 : PySem.W.codeIn K cd7 "ShortReader._take_sign" = true)
    (k7 : PySem.W.keepIn K (.ref p7) = true)
    (a8 : PySem.W.findIn K (.ref C_ShortReader) "_emit" = some (some (.ref p8)))
    (i8 : PySem.W.isFn K (.ref p8) = true)
    (l8 : K.lookup p8 = some ⟨oc8, od8, .func (PySem.W.fnOf "_emit" "ShortReader._emit" (defArgs s_ShortReader_emit) (defBody s_ShortReader_emit) (defScope s_ShortReader_emit) .none kV8 dc8 pm8 an8 cd8 ct8), sl8⟩)
    (c8 : PySem.W.codeIn K cd8 "ShortReader._emit" = true)
    (k8 : PySem.W.keepIn K (.ref p8) = true)
    (a9 : PySem.W.nsIn K mainGlobals "translate_short" = some (some (.ref p9)))
    (l9 : K.lookup p9 = some ⟨oc9, od9, .func (PySem.W.fnOf "translate_short" "translate_short" (defArgs s_translate_short) (defBody s_translate_short) (defScope s_translate_short) .none kV9 dc9 pm9 an9 cd9 ct9), sl9⟩)
    (c9 : PySem.W.codeIn K cd9 "translate_short" = true)
    (k9 : PySem.W.keepIn K (.ref p9) = true)
    (a10 : PySem.W.nsIn K mainGlobals "_law_number" = some (some (.ref p10)))
    (l10 : K.lookup p10 = some ⟨oc10, od10, .func (PySem.W.fnOf "_law_number" "_law_number" (defArgs s_law_number) (defBody s_law_number) (defScope s_law_number) .none kV10 dc10 pm10 an10 cd10 ct10), sl10⟩)
    (c10 : PySem.W.codeIn K cd10 "_law_number" = true)
    (k10 : PySem.W.keepIn K (.ref p10) = true)
    (a11 : PySem.W.nsIn K mainGlobals "_law_draws" = some (some (.ref p11)))
    (l11 : K.lookup p11 = some ⟨oc11, od11, .func (PySem.W.fnOf "_law_draws" "_law_draws" (defArgs s_law_draws) (defBody s_law_draws) (defScope s_law_draws) .none kV11 dc11 pm11 an11 cd11 ct11), sl11⟩)
    (c11 : PySem.W.codeIn K cd11 "_law_draws" = true)
    (k11 : PySem.W.keepIn K (.ref p11) = true)
    (a12 : PySem.W.nsIn K mainGlobals "_law_draw" = some (some (.ref p12)))
    (l12 : K.lookup p12 = some ⟨oc12, od12, .func (PySem.W.fnOf "_law_draw" "_law_draw" (defArgs s_law_draw) (defBody s_law_draw) (defScope s_law_draw) .none kV12 dc12 pm12 an12 cd12 ct12), sl12⟩)
    (c12 : PySem.W.codeIn K cd12 "_law_draw" = true)
    (k12 : PySem.W.keepIn K (.ref p12) = true)
    (a13 : PySem.W.nsIn K mainGlobals "_law_pick" = some (some (.ref p13)))
    (l13 : K.lookup p13 = some ⟨oc13, od13, .func (PySem.W.fnOf "_law_pick" "_law_pick" (defArgs s_law_pick) (defBody s_law_pick) (defScope s_law_pick) .none kV13 dc13 pm13 an13 cd13 ct13), sl13⟩)
    (c13 : PySem.W.codeIn K cd13 "_law_pick" = true)
    (k13 : PySem.W.keepIn K (.ref p13) = true)
    (a14 : PySem.W.nsIn K mainGlobals "_law_is_integer" = some (some (.ref p14)))
    (l14 : K.lookup p14 = some ⟨oc14, od14, .func (PySem.W.fnOf "_law_is_integer" "_law_is_integer" (defArgs s_law_is_integer) (defBody s_law_is_integer) (defScope s_law_is_integer) .none kV14 dc14 pm14 an14 cd14 ct14), sl14⟩)
    (c14 : PySem.W.codeIn K cd14 "_law_is_integer" = true)
    (k14 : PySem.W.keepIn K (.ref p14) = true)
    (a15 : PySem.W.nsIn K mainGlobals "_law_is_cells" = some (some (.ref p15)))
    (l15 : K.lookup p15 = some ⟨oc15, od15, .func (PySem.W.fnOf "_law_is_cells" "_law_is_cells" (defArgs s_law_is_cells) (defBody s_law_is_cells) (defScope s_law_is_cells) .none kV15 dc15 pm15 an15 cd15 ct15), sl15⟩)
    (c15 : PySem.W.codeIn K cd15 "_law_is_cells" = true)
    (k15 : PySem.W.keepIn K (.ref p15) = true)
    (a16 : PySem.W.nsIn K mainGlobals "_law_code" = some (some (.ref p16)))
    (l16 : K.lookup p16 = some ⟨oc16, od16, .func (PySem.W.fnOf "_law_code" "_law_code" (defArgs s_law_code) (defBody s_law_code) (defScope s_law_code) .none kV16 dc16 pm16 an16 cd16 ct16), sl16⟩)
    (c16 : PySem.W.codeIn K cd16 "_law_code" = true)
    (k16 : PySem.W.keepIn K (.ref p16) = true)
    (a17 : PySem.W.nsIn K mainGlobals "_law_codes" = some (some (.ref p17)))
    (l17 : K.lookup p17 = some ⟨oc17, od17, .func (PySem.W.fnOf "_law_codes" "_law_codes" (defArgs s_law_codes) (defBody s_law_codes) (defScope s_law_codes) .none kV17 dc17 pm17 an17 cd17 ct17), sl17⟩)
    (c17 : PySem.W.codeIn K cd17 "_law_codes" = true)
    (k17 : PySem.W.keepIn K (.ref p17) = true)
    (a18 : PySem.W.nsIn K mainGlobals "_law_step" = some (some (.ref p18)))
    (l18 : K.lookup p18 = some ⟨oc18, od18, .func (PySem.W.fnOf "_law_step" "_law_step" (defArgs s_law_step) (defBody s_law_step) (defScope s_law_step) .none kV18 dc18 pm18 an18 cd18 ct18), sl18⟩)
    (c18 : PySem.W.codeIn K cd18 "_law_step" = true)
    (k18 : PySem.W.keepIn K (.ref p18) = true)
    (a19 : PySem.W.nsIn K mainGlobals "_law_emit" = some (some (.ref p19)))
    (l19 : K.lookup p19 = some ⟨oc19, od19, .func (PySem.W.fnOf "_law_emit" "_law_emit" (defArgs s_law_emit) (defBody s_law_emit) (defScope s_law_emit) .none kV19 dc19 pm19 an19 cd19 ct19), sl19⟩)
    (c19 : PySem.W.codeIn K cd19 "_law_emit" = true)
    (k19 : PySem.W.keepIn K (.ref p19) = true)
    (a20 : PySem.W.nsIn K mainGlobals "_law_begun" = some (some (.ref p20)))
    (l20 : K.lookup p20 = some ⟨oc20, od20, .func (PySem.W.fnOf "_law_begun" "_law_begun" (defArgs s_law_begun) (defBody s_law_begun) (defScope s_law_begun) .none kV20 dc20 pm20 an20 cd20 ct20), sl20⟩)
    (c20 : PySem.W.codeIn K cd20 "_law_begun" = true)
    (k20 : PySem.W.keepIn K (.ref p20) = true)
    (a21 : PySem.W.nsIn K mainGlobals "_law_pieces" = some (some (.ref p21)))
    (l21 : K.lookup p21 = some ⟨oc21, od21, .func (PySem.W.fnOf "_law_pieces" "_law_pieces" (defArgs s_law_pieces) (defBody s_law_pieces) (defScope s_law_pieces) .none kV21 dc21 pm21 an21 cd21 ct21), sl21⟩)
    (c21 : PySem.W.codeIn K cd21 "_law_pieces" = true)
    (k21 : PySem.W.keepIn K (.ref p21) = true)
    (a22 : PySem.W.nsIn K mainGlobals "_law_is_at" = some (some (.ref p22)))
    (l22 : K.lookup p22 = some ⟨oc22, od22, .func (PySem.W.fnOf "_law_is_at" "_law_is_at" (defArgs s_law_is_at) (defBody s_law_is_at) (defScope s_law_is_at) .none kV22 dc22 pm22 an22 cd22 ct22), sl22⟩)
    (c22 : PySem.W.codeIn K cd22 "_law_is_at" = true)
    (k22 : PySem.W.keepIn K (.ref p22) = true)
    (a23 : PySem.W.nsIn K mainGlobals "_law_feeds" = some (some (.ref p23)))
    (l23 : K.lookup p23 = some ⟨oc23, od23, .func (PySem.W.fnOf "_law_feeds" "_law_feeds" (defArgs s_law_feeds) (defBody s_law_feeds) (defScope s_law_feeds) .none kV23 dc23 pm23 an23 cd23 ct23), sl23⟩)
    (c23 : PySem.W.codeIn K cd23 "_law_feeds" = true)
    (k23 : PySem.W.keepIn K (.ref p23) = true)
    (a24 : PySem.W.nsIn K mainGlobals "law" = some (some (.ref p24)))
    (l24 : K.lookup p24 = some ⟨oc24, od24, .func (PySem.W.fnOf "law" "law" (defArgs s_law) (defBody s_law) (defScope s_law) .none kV24 dc24 pm24 an24 cd24 ct24), sl24⟩)
    (c24 : PySem.W.codeIn K cd24 "law" = true)
    (k24 : PySem.W.keepIn K (.ref p24) = true)
    (pg_ShortReader : PySem.W.plainGet K C_ShortReader Str.empty = true)
    (hd_ShortReader : PySem.W.hasDictIn K C_ShortReader = true)
    (po_ShortReader : PySem.W.plainOver K C_ShortReader = true)
    (sa_ShortReader : PySem.W.findIn K (.ref C_ShortReader) "__setattr__" = some (some (.builtin "object.__setattr__")))
    (mk_ShortReader : PySem.W.makesIn K C_ShortReader = true)
    (kc_ShortReader : PySem.W.keepIn K (.ref C_ShortReader) = true)
    (na_ShortReader_m : PySem.W.findIn K (.ref C_ShortReader) "m" = some none)
    (na_ShortReader_r : PySem.W.findIn K (.ref C_ShortReader) "r" = some none)
    (na_ShortReader_waiting : PySem.W.findIn K (.ref C_ShortReader) "waiting" = some none)
    (na_ShortReader_finished : PySem.W.findIn K (.ref C_ShortReader) "finished" = some none)
    (na_ShortReader_cells : PySem.W.findIn K (.ref C_ShortReader) "_cells" = some none)
    (c_COLON : PySem.W.nsIn K mainGlobals "COLON" = some (some (.int 58 t_COLON)))
    (c_NOP : PySem.W.nsIn K mainGlobals "NOP" = some (some (.int 32 t_NOP)))
    (c_PUSH : PySem.W.nsIn K mainGlobals "PUSH" = some (some (.int 35 t_PUSH)))
    (c_QUOTE : PySem.W.nsIn K mainGlobals "QUOTE" = some (some (.int 39 t_QUOTE)))
    (c_SPACE : PySem.W.nsIn K mainGlobals "SPACE" = some (some (.int 32 t_SPACE)))
    (c_GREATER : PySem.W.nsIn K mainGlobals "_GREATER" = some (some (.int 62 t_GREATER)))
    (n_bool : PySem.W.nsIn K mainGlobals "bool" = some none)
    (n_int : PySem.W.nsIn K mainGlobals "int" = some none)
    (n_isinstance : PySem.W.nsIn K mainGlobals "isinstance" = some none)
    (n_len : PySem.W.nsIn K mainGlobals "len" = some none)
    (n_list : PySem.W.nsIn K mainGlobals "list" = some none)
    (n_range : PySem.W.nsIn K mainGlobals "range" = some none)
    : ∃ fd : FuncData, (∀ (s : Shared) (v : Value), BindsTo s fd ⟨[v], []⟩ [("script", v)]) ∧ ∀ base : Heap, K.In base → base.Ns mainGlobals mg → FnOk l.prog w K mg base CX0 6 fa fd ["script"] (sp_law K) := by
  obtain ⟨T, eT⟩ := mk_txt X G g_ShortReader a1 l1 c1 k1 a2 l2 c2 k2 a3 i3 l3 c3 k3 a4 i4 l4 c4 k4 a5 i5 l5 c5 k5 a6 i6 l6 c6 k6 a7 i7 l7 c7 k7 a8 i8 l8 c8 k8 a9 l9 c9 k9 a10 l10 c10 k10 a11 l11 c11 k11 a12 l12 c12 k12 a13 l13 c13 k13 a14 l14 c14 k14 a15 l15 c15 k15 a16 l16 c16 k16 a17 l17 c17 k17 a18 l18 c18 k18 a19 l19 c19 k19 a20 l20 c20 k20 a21 l21 c21 k21 a22 l22 c22 k22 a23 l23 c23 k23 a24 l24 c24 k24 pg_ShortReader hd_ShortReader po_ShortReader sa_ShortReader mk_ShortReader kc_ShortReader na_ShortReader_m na_ShortReader_r na_ShortReader_waiting na_ShortReader_finished na_ShortReader_cells c_COLON c_NOP c_PUSH c_QUOTE c_SPACE c_GREATER n_bool n_int n_isinstance n_len n_list n_range
  cases hfa.symm.trans T.g_law
  exact ⟨T.d_law, T.h_law, fun base _ _ => ok_law T⟩
end K17
open PySem PySem.W PyProof.Rows
set_option maxRecDepth 100000 in
set_option maxHeartbeats 0 in
theorem PySem.Challenge.cw_plinth_k17_short_in_pieces_holds : PySem.Challenge.rw_plinth_k17_short_in_pieces.Holds := by
  w_on; o_law; k_head; (case hw => w_witness2)
  k_fill
  refine L2.walk_ofK (l := PySem.Challenge.rw_plinth_k17_short_in_pieces) (n := 63) (k := 6) (x := "script") (CX := L2.CX0) (sp := K17.sp_law) rfl (by decide) rfl ⟨rfl, by decide, by decide⟩ (fun w h Y => PySem.W.kIn_of Y) ?F K17.law_at (fun _ _ _ _ z => z)
  case F =>
    intro w mg fa h KX G hmg
    refine' K17.all_mk KX G hmg ?g_ShortReader ?a1 ?l1 ?c1 ?k1 ?a2 ?l2 ?c2 ?k2 ?a3 ?i3 ?l3 ?c3 ?k3 ?a4 ?i4 ?l4 ?c4 ?k4 ?a5 ?i5 ?l5 ?c5 ?k5 ?a6 ?i6 ?l6 ?c6 ?k6 ?a7 ?i7 ?l7 ?c7 ?k7 ?a8 ?i8 ?l8 ?c8 ?k8 ?a9 ?l9 ?c9 ?k9 ?a10 ?l10 ?c10 ?k10 ?a11 ?l11 ?c11 ?k11 ?a12 ?l12 ?c12 ?k12 ?a13 ?l13 ?c13 ?k13 ?a14 ?l14 ?c14 ?k14 ?a15 ?l15 ?c15 ?k15 ?a16 ?l16 ?c16 ?k16 ?a17 ?l17 ?c17 ?k17 ?a18 ?l18 ?c18 ?k18 ?a19 ?l19 ?c19 ?k19 ?a20 ?l20 ?c20 ?k20 ?a21 ?l21 ?c21 ?k21 ?a22 ?l22 ?c22 ?k22 ?a23 ?l23 ?c23 ?k23 ?a24 ?l24 ?c24 ?k24 ?pg_ShortReader ?hd_ShortReader ?po_ShortReader ?sa_ShortReader ?mk_ShortReader ?kc_ShortReader ?na_ShortReader_m ?na_ShortReader_r ?na_ShortReader_waiting ?na_ShortReader_finished ?na_ShortReader_cells ?c_COLON ?c_NOP ?c_PUSH ?c_QUOTE ?c_SPACE ?c_GREATER ?n_bool ?n_int ?n_isinstance ?n_len ?n_list ?n_range
    (case g_ShortReader => k_is)
    (case a1 => k_is)
    (case l1 => k_is)
    (case c1 => k_is)
    (case k1 => k_is)
    (case a2 => k_is)
    (case l2 => k_is)
    (case c2 => k_is)
    (case k2 => k_is)
    (case a3 => k_is)
    (case i3 => k_is)
    (case l3 => k_is)
    (case c3 => k_is)
    (case k3 => k_is)
    (case a4 => k_is)
    (case i4 => k_is)
    (case l4 => k_is)
    (case c4 => k_is)
    (case k4 => k_is)
    (case a5 => k_is)
    (case i5 => k_is)
    (case l5 => k_is)
    (case c5 => k_is)
    (case k5 => k_is)
    (case a6 => k_is)
    (case i6 => k_is)
    (case l6 => k_is)
    (case c6 => k_is)
    (case k6 => k_is)
    (case a7 => k_is)
    (case i7 => k_is)
    (case l7 => k_is)
    (case c7 => k_is)
    (case k7 => k_is)
    (case a8 => k_is)
    (case i8 => k_is)
    (case l8 => k_is)
    (case c8 => k_is)
    (case k8 => k_is)
    (case a9 => k_is)
    (case l9 => k_is)
    (case c9 => k_is)
    (case k9 => k_is)
    (case a10 => k_is)
    (case l10 => k_is)
    (case c10 => k_is)
    (case k10 => k_is)
    (case a11 => k_is)
    (case l11 => k_is)
    (case c11 => k_is)
    (case k11 => k_is)
    (case a12 => k_is)
    (case l12 => k_is)
    (case c12 => k_is)
    (case k12 => k_is)
    (case a13 => k_is)
    (case l13 => k_is)
    (case c13 => k_is)
    (case k13 => k_is)
    (case a14 => k_is)
    (case l14 => k_is)
    (case c14 => k_is)
    (case k14 => k_is)
    (case a15 => k_is)
    (case l15 => k_is)
    (case c15 => k_is)
    (case k15 => k_is)
    (case a16 => k_is)
    (case l16 => k_is)
    (case c16 => k_is)
    (case k16 => k_is)
    (case a17 => k_is)
    (case l17 => k_is)
    (case c17 => k_is)
    (case k17 => k_is)
    (case a18 => k_is)
    (case l18 => k_is)
    (case c18 => k_is)
    (case k18 => k_is)
    (case a19 => k_is)
    (case l19 => k_is)
    (case c19 => k_is)
    (case k19 => k_is)
    (case a20 => k_is)
    (case l20 => k_is)
    (case c20 => k_is)
    (case k20 => k_is)
    (case a21 => k_is)
    (case l21 => k_is)
    (case c21 => k_is)
    (case k21 => k_is)
    (case a22 => k_is)
    (case l22 => k_is)
    (case c22 => k_is)
    (case k22 => k_is)
    (case a23 => k_is)
    (case l23 => k_is)
    (case c23 => k_is)
    (case k23 => k_is)
    (case a24 => k_is)
    (case l24 => k_is)
    (case c24 => k_is)
    (case k24 => k_is)
    (case pg_ShortReader => k_is)
    (case hd_ShortReader => k_is)
    (case po_ShortReader => k_is)
    (case sa_ShortReader => k_is)
    (case mk_ShortReader => k_is)
    (case kc_ShortReader => k_is)
    (case na_ShortReader_m => k_is)
    (case na_ShortReader_r => k_is)
    (case na_ShortReader_waiting => k_is)
    (case na_ShortReader_finished => k_is)
    (case na_ShortReader_cells => k_is)
    (case c_COLON => k_is)
    (case c_NOP => k_is)
    (case c_PUSH => k_is)
    (case c_QUOTE => k_is)
    (case c_SPACE => k_is)
    (case c_GREATER => k_is)
    (case n_bool => k_is)
    (case n_int => k_is)
    (case n_isinstance => k_is)
    (case n_len => k_is)
    (case n_list => k_is)
    (case n_range => k_is)


