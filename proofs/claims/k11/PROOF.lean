import PyProof.Rows.All
import Wide.All
import OpenK.AllK
import Wide.FinOn
import PyProof.ReprRoads
import HandS.ForMost
import HandS.ForExc
import KE.GoesComp
import KE.KIndexOf
import PyProof.RulesMatch
import HandS.Style
import PyProof.ListCopy
import HandS.Conv
import HandS.OwnIter
import KE.KDictZip
import PyProof.Rows.SetFrom
import HandS.Wide
import HandS.ExcIs
import HandS.IsInst
import HandS.CallLocal
import HandS.More
import HandS.Set
import HandS.SetKeys
import HandS.Walk
import HandS.FStr
import HandS.Small
import HandS.Star
import PyProof.Rows.SortShellAny
import HandS.NoneIn
import HandS.Deep
import HandS.DictComp
import HandS.TryOnly
import PySem.Challenge.RW_flatsheaves_k11_machine
set_option Elab.async false
set_option linter.all false
set_option maxRecDepth 100000
set_option maxHeartbeats 4000000
namespace GX
open PySem PySem.Spec PyProof.Rows L2
/-! ### defs that show data by repr: no text is being shown around them -/
structure FnG (P : Program) (w : World) (K : PySem.W.Frag) (mg : Str → Option Value) (base : Heap) (cx : CXT) (k : Nat) (f : Addr) (fd : FuncData) (ps : List Str) (sp : Sp) : Prop where
  len : ∀ {vs H Q E}, sp vs H Q E → vs.length = ps.length
  run : ∀ {A : Around} {outer : List Env} {s : Shared} {H : Hp} {g : Args} {us : List Value} {vs : List V} {Q : VK} {E : XK}, A.guards = some [] → Room k A → Env0 P w K mg base A outer s H →
    BindsTo s fd g (ps.zip us) → Vals vs us → sp vs H Q E → codeAny (model P w) A (.call (.ref f) g) (CR cx outer P w H s Q E) s
theorem ce_end {P : Program} {w : World} {K : PySem.W.Frag} {mg : Str → Option Value} {base : Heap} {N : List Str} {q : Str} {sc : Scope} {f : Addr} {cd : Value} {A : Around} {outer : List Env} {s s' : Shared} {H H' : Hp} {E : XK} {cx : CXT} {σ : L2.St} {v : V} {u : Value} {Q : VK}
    (I : Inv (cxOf cx P w K mg base N q sc f cd A outer s H E) [] σ H' s') (r : RelV v u) (z : Q v H') : CE outer P w H s Q u s' := ⟨v, H', I.os, I.bare, I.base, I.hok, r, z⟩
section
variable {P : Program} {w : World} {K : PySem.W.Frag} {mg : Str → Option Value} {base : Heap} {cx : CXT} {k : Nat} {f : Addr} {fd : FuncData} {N ps : List Str} {sp : Sp} {x qual : Str} {st : Stmt}
theorem fnG (F : Fun K x qual st f fd) (S : FnScope N ps (defScope st)) (len : ∀ vs H Q E, sp vs H Q E → vs.length = ps.length)
    (body : ∀ (cdv : Value) (A : Around) (outer : List Env) (s : Shared) (H : Hp) (vs : List V) (Q : VK) (E : XK), (A.deeper (envOfC qual (defScope st) s.heap.objs.size f cdv)).guards = some [] → Room k (A.deeper (envOfC qual (defScope st) s.heap.objs.size f cdv)) → sp vs H Q E →
      ∃ t, PSs (cxOf cx P w K mg base N qual (defScope st) f cdv A outer s H E) (defBody st) t ∧ t { nx := fun _ H' => Q .non H', rt := Q } (start N vs) H) : FnG P w K mg base cx (k + 1) f fd ps sp := by
  obtain ⟨_, _, _, _, _, _, cdv, _, _, rfl, lk, hcd⟩ := F.ex
  constructor
  · intro vs H Q E h; exact len _ _ _ _ h
  intro A outer s H g us vs Q E hg hr e0 hb r h
  have KX : K.In s.heap := e0.mod.kin.keeps fun b o e => (e0.bs b o e).1
  have kinds : ∀ y ∈ ps.zip us, (defScope st).names.lookup y.1 = some .local ∨ ((defScope st).names.lookup y.1 = some .cell ∧ ((cellsFrom (s.heap.objs.size + 1) (defScope st).names []).lookup y.1).isSome = true) := by
    rintro ⟨n, v⟩ hy
    exact (S.par n (List.of_mem_zip hy).1).imp_right fun q => ⟨q, PySem.W.cellsFrom_some _ _ _ (.inl q)⟩
  refine codeAny_call_function hr.depth (KX _ _ lk) rfl S.co S.gen rfl (PySem.W.codeRec_of KX hcd) (hb _ _ _ _ (wpAny_newFunctionEnv_cells S.kind kinds ?_))
  rintro env rfl s1 z
  refine ⟨(e0.mod.nolimit.keeps fun b o e => (e0.bs b o e).1).keeps z.toInCall.keep, codeAny_func ?_⟩
  obtain ⟨t, ht, hq⟩ := body cdv A outer s H vs Q E hg (hr.deeper _) h
  refine wpAny_mono (ht.run [] s1 (start N vs) H _ (inv_start S hr.hd e0 (len _ _ _ _ h) r z) hq) ?_ fun _ _ y => y
  intro fl s' y
  cases fl with
  | next => exact let ⟨_, _, J, q⟩ := y; ce_end (v := V.non) (u := Value.none) J rfl q
  | ret u => exact let ⟨_, _, _, J, rv, q⟩ := y; ce_end J rv q
  | brk => exact let ⟨_, _, _, q⟩ := y; False.elim q
  | cont => exact let ⟨_, _, _, q⟩ := y; False.elim q
end
section
variable {X : Cx} {cx : CXT} {k : Nat} {f : Addr} {fd : FuncData} {ps : List Str} {sp : Sp} {E : XK} {x : Str} {p pos : Pos} {e : Expr} {es : List Expr} {t : TA}
theorem pe_callG (F : FnG X.prog X.w X.K X.mg X.base cx k f fd ps sp) (hg0 : X.A.guards = some []) (hr : Room k X.A) (hg : Gl X x) (hm : X.mg x = some (.ref f)) (hk : PySem.W.keepIn X.K (.ref f) = true) (hb : Binds X.K fd ps []) (hx : Passes cx X E)
    (ha : PA X (e :: es) t) (hdb : (x == ("__debug__" : Str)) = false := by decide) (he : starEach (e :: es) X.env = (false, eval e X.env) :: starEach es X.env := by rfl) (hpl : (backTo pos (starEach es X.env)).any (·.1) = false := by rfl) :
    PE X (.Call (.Name x p) (e :: es) [] pos) (tCall sp [] E t) := by
  constructor
  intro pins s σ H Q I h
  refine wpAny_Call_Name_kw (ld_glob I hg hm (PySem.W.callWith_K (h₀ := X.base) I.ok.mod.kin hk (thn (ha.run pos pins s σ H _ I h) ?_) he hpl) hdb)
  rintro us s1 ⟨vs, H1, J, r, q⟩
  rw [List.append_nil] at q
  refine ⟨J.kIn, wpAny_call (codeAny_mono (F.run hg0 hr J.env0 (by simpa using hb s1 us J.kIn (by rw [List.append_nil, ← r.length]; exact F.len q)) r q) ?_)⟩
  intro res s' y
  match res, y with
  | .error err, y => exact hx pins σ H1 s1 err s' J y
  | .ok (.ret u), y => exact J.after y
  | .ok .next, y => exact False.elim y
  | .ok .brk, y => exact False.elim y
  | .ok .cont, y => exact False.elim y
/-- repr of lists and tuples of data -/
def rReprD (K : PySem.W.Frag) : List V → Hp → VK → Prop := fun xs H Q => ∃ (a : Addr) (d : PyData), xs = [.ref a] ∧ Dp K H (.ref a) d ∧ d.showable = true ∧ d.hasDict = false ∧ d.depth ≤ 60 ∧ d.shown.length ≤ sizeLine ∧ Q (.str d.shown) H
theorem call_reprD (hg : X.A.guards = some []) (hu : X.A.units + 64 < cLine) : CallR X (.builtin "repr") (rReprD X.K) := by
  intro pins s σ H xs us Q I r h
  obtain ⟨a, d, rfl, hd, h1, h2, h3, h4, q⟩ := h
  obtain ⟨u, rfl, rfl⟩ := vals1 r
  obtain ⟨as, hR⟩ := Dp.reads I d _ _ hd (rfl : RelV (.ref a) (.ref a))
  refine repr_of_reads' hR h1 (fun z => by rw [h2] at z; cases z) hg (by omega) (fun _ _ e => e) (fun h' u tk hk => ?_) h4
  exact ⟨.str d.shown, H, I.un (Un.kept hk) (I.hok.kept hk), ⟨u, rfl⟩, q⟩
end
/-! ### the law's end -/
theorem law_callG {P : Program} {w : World} {K : PySem.W.Frag} {mg mb : Str → Option Value} {cx : CXT} {k : Nat} {fa a : Addr} {fd : FuncData} {x : Str} {sp : Sp} {s : Shared} {vs : List Value} {ns : List Int}
    (KX : K.In s.heap) (hns : s.heap.Ns mainGlobals mg) (hb : s.heap.Ns builtinsNs mb) (hbb : ∀ x : Str, x ≠ "__name__" → mb x = bootBuiltins x) (hlim : s.heap.NoLimit) (hgens : s.gens = #[])
    (ha : s.heap.get? a = some { cls := .type "list", data := .seq vs.toArray }) (hi : IntsAre vs ns) (hl : ns.length ≤ sizeLine) (hr : Room k callerA)
    (F : ∀ base : Heap, K.In base → base.Ns mainGlobals mg → FnG P w K mg base cx k fa fd [x] sp) (hbind : ∀ (s : Shared) (u : Value), BindsTo s fd ⟨[u], []⟩ [(x, u)])
    (hsp : ∀ H : Hp, Only H → SqL K H a (ns.map V.int) → sp [.ref a] H (fun v _ => v = .bl true) fun _ _ _ => False)
    (hcx : ∀ H e s', cx [] H s (fun _ _ _ => False) e s' → False) :
    codeAny (model P w) callerA (.call (.ref fa) ⟨[.ref a], []⟩) (fun r s' => r = .ok (.ret (.bool true)) ∧ OldK s.heap s'.heap ∧ s'.os = s.os ∧ AllBare s'.gens) s := by
  have rv := vals_ints hi
  -- the heap: the script alone, where it is no object of the module's own
  have go : ∀ H : Hp, (∀ b u, H b = some u → b = a ∧ K.lookup a = none ∧ ∃ ob xs, u = .frz ob (.lst xs)) → SqL K H a (ns.map V.int) → HOk P w H s.heap →
      codeAny (model P w) callerA (.call (.ref fa) ⟨[.ref a], []⟩) (fun r s' => r = .ok (.ret (.bool true)) ∧ OldK s.heap s'.heap ∧ s'.os = s.os ∧ AllBare s'.gens) s := by
    intro H own hS hok
    have bare : ∀ {b : Addr}, b ≠ a → H b = none := fun {b} n => by
      cases e : H b with
      | none => rfl
      | some u => exact absurd (own b u e).1 n
    have dict : ∀ {b : Addr} {o : Obj} {es : Array DictEntry} {ep : Nat}, s.heap.get? b = some o → o.data = .dict es ep → H b = none := fun {b o es ep} e d => bare fun z => by
      rw [z, ha] at e
      cases e
      exact (nomatch (show Data.seq vs.toArray _ = Data.dict es ep from d))
    have nsB : ∀ {b : Addr} {m : Str → Option Value}, s.heap.Ns b m → (hidT s.heap H).Ns b m := fun {b m} z => by
      obtain ⟨o, es, ep, e, d, r⟩ := z
      exact ⟨o, es, ep, hidT_get e (dict e d), d, r⟩
    have kB : K.In (hidT s.heap H) := fun b o e => hidT_get (KX b o e) (by
      cases q : H b with
      | none => rfl
      | some u =>
        obtain ⟨rfl, n, _⟩ := own b u q
        rw [n] at e
        cases e)
    obtain ⟨mc, c1, c2⟩ := hlim
    have e0 : Env0 P w K mg (hidT s.heap H) callerA [] s H :=
      { frames := rfl, mod := ⟨kB, nsB hns, ⟨mb, nsB hb, hbb⟩, mc, nsB c1, c2⟩, bs := fun b o e => of_hidT e, bsz := Nat.le_of_eq (hidT_size _ _), funs := trivial, frf := fun b z => (nomatch (show b ∈ ([] : List Addr) from z)), hok := hok, bare := .of_eq hgens }
    have only : Only H := fun b => by
      cases e : H b with
      | none => exact .inl rfl
      | some u =>
        obtain ⟨_, _, ob, xs, rfl⟩ := own b u e
        exact .inr ⟨ob, xs, rfl⟩
    refine codeAny_mono ((F _ kB (nsB hns)).run (A := callerA) (us := [.ref a]) rfl hr e0 (hbind s (.ref a)) (.cons (show RelV (.ref a) (.ref a) from rfl) .nil) (hsp H only hS)) ?_
    intro res s' y
    match res, y with
    | .error err, y => exact (hcx H err s' y).elim
    | .ok .next, y => exact False.elim y
    | .ok .brk, y => exact False.elim y
    | .ok .cont, y => exact False.elim y
    | .ok (.ret u), y =>
      obtain ⟨v, H', os, gb, un, hok', r', q⟩ := y
      obtain rfl : v = .bl true := q
      obtain rfl : u = Value.bool true := r'
      refine ⟨rfl, OldK.of_keep fun b o e => ?_, os, gb⟩
      cases q : H b with
      | none => exact un.keep b o e q (fun z => nomatch (show b ∈ ([] : List Addr) from z)) (fun z => nomatch z)
      | some u =>
        obtain ⟨_, _, ob, xs, rfl⟩ := own b u q
        have g1 := (hok b _ q).1
        have g2 := (hok' b _ (un.frzs b ob _ q)).1
        rw [e] at g1
        cases g1
        exact g2
  by_cases hK : K.lookup a = none
  · obtain ⟨H, hH⟩ : ∃ H : Hp, H = upd (fun _ => none) a (.frz { cls := .type "list", data := .seq vs.toArray } (.lst (ns.map V.int))) := ⟨_, rfl⟩
    have at_a : H a = some (.frz { cls := .type "list", data := .seq vs.toArray } (.lst (ns.map V.int))) := by rw [hH]; exact upd_same
    have off : ∀ b u, H b = some u → b = a ∧ u = .frz { cls := .type "list", data := .seq vs.toArray } (.lst (ns.map V.int)) := fun b u e => by
      by_cases c : b = a
      · rw [c, at_a] at e
        exact ⟨c, (Option.some.inj e).symm⟩
      · rw [hH, upd_ne c] at e
        cases e
    refine go H (fun b u e => ⟨(off b u e).1, hK, _, _, (off b u e).2⟩) (.inl (.inr ⟨_, at_a⟩)) fun b u e => ?_
    obtain ⟨rfl, rfl⟩ := off b u e
    exact ⟨ha, by rw [List.length_map]; exact hl, vs, _, rv, ha⟩
  · obtain ⟨o, ho⟩ := Option.ne_none_iff_exists'.mp hK
    have e := KX a o ho
    rw [ha] at e
    obtain rfl := Option.some.inj e
    exact go (fun _ => none) (fun b u z => nomatch (show (none : Option HO) = some u from z)) (.inr ⟨_, vs.toArray, _, ho, rfl, rfl, rfl, by rw [List.size_toArray, hi.length]; exact hl, by simpa using rv⟩) fun b u z => nomatch (show (none : Option HO) = some u from z)
theorem walkG {l : PySem.W.OpenLaw} {n k : Nat} {q : Program} {loose : List Str} {XP : (Str → Option Value) → Heap → Prop} {YP : World → Heap → Prop} {d : DefRec} {K : Params → PySem.W.Frag} {cx : World → CXT} {sp : World → Sp} {x : Str}
    (hn : l.most = some n) (hn2 : n ≤ sizeLine) (hdf : d.params.defaults = []) (hr : Room k callerA) (hY : ∀ (w : World) (h : Heap), YP w h → (K w.params).In h)
    (F : ∀ (w : World) (mg : Str → Option Value) (fa : Addr) (h : Heap), (K w.params).In h → h.Ns mainGlobals mg → mg d.name = some (.ref fa) →
      ∃ fd : FuncData, (∀ (s : Shared) (u : Value), BindsTo s fd ⟨[u], []⟩ [(x, u)]) ∧ ∀ base : Heap, (K w.params).In base → base.Ns mainGlobals mg → FnG l.prog w (K w.params) mg base (cx w) k fa fd [x] (sp w))
    (hsp : ∀ (w : World) (H : Hp) (a : Addr) (ns : List Int), ns.length ≤ n → SqL (K w.params) H a (ns.map V.int) → sp w [.ref a] H (fun v _ => v = .bl true) fun _ _ _ => False)
    (hcx : ∀ (w : World) (H : Hp) (s : Shared) (e : Value) (s' : Shared), cx w [] H s (fun _ _ _ => False) e s' → False) :
    PySem.W.WalkO q loose XP YP l.row.toRowW d [] (fun f vs => PySem.call f vs) := by
  refine Att.attach_call hn hdf ?_
  intro w s₀ s₁ mg mb fa o pm cd doc a vs ns G Y ho hd hcd hmg hobj hints hlen hg
  obtain ⟨fd, hb, hF⟩ := F w mg fa _ (hY w _ Y) G.T.g hmg
  exact law_callG (hY w _ Y) G.T.g G.T.b G.T.builtins G.T.nolimit hg hobj hints (Nat.le_trans hlen hn2) hr hF hb (fun H _ hS => hsp w H a ns hlen hS) fun H e s' => hcx w H s₁ e s'
end GX

namespace LX
open PySem PySem.Spec PyProof.Rows L2
/-! ### an exception that leaves a list comprehension -/
theorem same_frame (x : Value) (sc : Scope) (cl : List (Str × Addr)) (C : Addr) (env : Env) : noteFrame x (compEnvC sc cl C env) = noteFrame x env := rfl
/-- the heap without one address -/
theorem without (h : Heap) (C : Addr) : ∃ G : Heap, (∀ b, b ≠ C → G.get? b = h.get? b) ∧ G.get? C = none := by
  obtain ⟨G, g1, g2⟩ := restrict h fun b => decide (b ≠ C)
  exact ⟨G, fun b n => g1 b (decide_eq_true n), g2 C (by simp)⟩
theorem frames_move {l : List Env} {h h' B B' : Heap} {C : Addr} (f : h.FunFrames B l) (nC : C ∉ frs l) (k : ∀ b, b ≠ C → h'.get? b = h.get? b) (kB : ∀ b o, B'.get? b = some o → B.get? b = some o) : h'.FunFrames B' l := by
  induction l with
  | nil => trivial
  | cons e r ih =>
    obtain ⟨a1, ⟨L, o, a2, a3, a4, a5⟩, a6⟩ := f
    have nL : L ≠ C := fun z => nC (List.mem_filterMap.mpr ⟨e, List.mem_cons_self .., by rw [a2, z]⟩)
    have nB : B'.get? L = none := by
      cases z : B'.get? L with
      | none => rfl
      | some o' => have := kB _ _ z; rw [a3] at this; cases this
    refine ⟨a1, ⟨L, o, a2, nB, (k L nL).trans a4, a5⟩, ih a6 fun z => nC ?_⟩
    obtain ⟨e', m, q⟩ := List.mem_filterMap.mp z
    exact List.mem_filterMap.mpr ⟨e', List.mem_cons_of_mem _ m, q⟩
theorem traced_move {h h' B B' : Heap} {C a : Addr} {Z : Obj → Prop} {v : Value} (t : HandSPX.TracedZ h B a Z v) (na : a ≠ C) (k : ∀ b, b ≠ C → h'.get? b = h.get? b) (hC : ∃ o, B.get? C = some o) (kB : ∀ b o, B'.get? b = some o → B.get? b = some o) : HandSPX.TracedZ h' B' a Z v := by
  obtain ⟨oe, vs, T, oT, ts, q1, q2, q3, q4, q5, q6, q7, q8, q9⟩ := t
  have nT : T ≠ C := fun z => by
    obtain ⟨o, e⟩ := hC
    rw [z, e] at q5; cases q5
  have nB : B'.get? T = none := by
    cases z : B'.get? T with
    | none => rfl
    | some o' => have := kB _ _ z; rw [q5] at this; cases this
  exact ⟨oe, vs, T, oT, ts, (k a na).trans q1, q2, q3, q4, nB, q6, (k T nT).trans q7, q8, q9⟩
section
variable {X : Cx} {pins : List (Addr × Obj)} {σ : L2.St} {H : Hp} {s s' : Shared}
theorem let_out {EX : XK} {C : Addr} {m : Str → Option Value} {scope : Scope} {cl : List (Str × Addr)} {u : Value} (hs : X.stack = X.env :: X.outer) (hf : X.env.frame = some X.env.locals) (tk : Takes X (fun c d _ H' => EX c d H'))
    (J : Inv X pins σ H s) (fC : FpOk X pins H C) (hn : s.heap.Ns C m) (c : CX X.prog X.w X.stack H s EX u s') :
    notedBy (model X.prog X.w) X.A (compEnvC scope cl C X.env) (CompFails (model X.prog X.w) X.A X.xe (compEnvC scope cl C X.env)) u s' := by
  obtain ⟨a, B, H', cls, d, rfl, fl, hok, ub, na, os, ag, hE⟩ := c
  have nC : C ∉ frs X.stack := fun z => by
    rw [hs] at z
    have z2 : C ∈ X.env.locals :: frs X.outer := by
      unfold frs at z
      rw [List.filterMap_cons, hf] at z
      exact z
    rcases List.mem_cons.mp z2 with z3 | z3
    · exact fC.2.1 z3
    · exact fC.2.2.1 z3
  obtain ⟨oC, esC, epC, gC, dC, rC⟩ := hn
  have bC : B.get? C = some oC := ub.keep C oC gC fC.1 nC
  have naC : a ≠ C := fun z => by
    have q := fl.2.1
    rw [z, bC] at q; cases q
  have hfr : X.A.frames = some (X.env :: X.outer) := by rw [J.ok.frames, hs]
  show wpAny _ _ (noteFrame (.ref a) (compEnvC scope cl C X.env)) _ _ s'
  rw [same_frame]
  refine HandSPX.looks_onZ Zc.steady hfr hf (by rw [hs] at fl; exact fl) fun h1 hh up => ?_
  refine ⟨m, ⟨oC, esC, epC, hh.1 C oC bC, dC, rC⟩, fun h2 m2 _ sb => ?_⟩
  have same2 : ∀ b, b ≠ C → h2.get? b = h1.get? b := fun b n => sb.2 b n
  obtain ⟨B2, g1, g2⟩ := without B C
  have kB : ∀ b o, B2.get? b = some o → B.get? b = some o := fun b o e => by
    by_cases z : b = C
    · rw [z, g2] at e; cases e
    · rw [g1 b z] at e; exact e
  have hs2 : B2.StaysIn h2 := fun b o e => by
    by_cases z : b = C
    · rw [z, g2] at e; cases e
    · rw [same2 b z]; exact hh.1 b o (kB b o e)
  have ff2 : h2.FunFrames B2 (X.env :: X.outer) := frames_move hh.2.2.1 (by rw [← hs]; exact nC) same2 kB
  have tr2 : HandSPX.TracedZ h2 B2 a (Zc cls d) (rawInt X.env.locals) := traced_move hh.2.2.2 naC same2 ⟨_, bC⟩ kB
  have a2 : B2.get? a = none := by
    cases z : B2.get? a with
    | none => rfl
    | some o => have := kB _ _ z; rw [fl.2.1] at this; cases this
  have hh2 : HandSPX.HeldZ B2 (X.env :: X.outer) a (Zc cls d) X.env.locals h2 := ⟨hs2, a2, ff2, tr2⟩
  obtain ⟨oe, vs, T, oT, ts, q1, q2, q3, q4, q5, q6, q7, q8, q9⟩ := tr2
  show wpAny _ _ (PySem.passOn _ (.ref a) _) _ _ _
  unfold PySem.passOn
  refine wpAny_bind (wpAny_field (s := { s' with heap := h2 }) q1 q3 q4 ?_)
  rw [if_neg (show ¬ ((Value.ref T == Value.none) = true) from by simp)]
  refine wpAny_bind ?_
  show wpAny _ _ (setFlight (.ref a) X.env.frame) _ _ _
  rw [hf]
  refine HandSPX.setFlight_onZ (s := { s' with heap := h2 }) hh2 fun h3 hh3 up3 => ?_
  refine wpAny_throw (tk _ _ ?_)
  obtain ⟨G, r1, r2⟩ := restrict h3 fun b => (B2.get? b).isSome || decide (b ∈ frs X.stack)
  have gB : ∀ b o, B2.get? b = some o → G.get? b = some o := fun b o e => (r1 b (by simp [e])).trans (hh3.1 b o e)
  have inG : ∀ b o, G.get? b = some o → h3.get? b = some o ∧ ((B2.get? b).isSome = true ∨ b ∈ frs X.stack) := fun b o e => by
    by_cases z : ((B2.get? b).isSome || decide (b ∈ frs X.stack)) = true
    · rw [r1 b z] at e
      exact ⟨e, by simpa using z⟩
    · rw [r2 b (Bool.eq_false_iff.mpr z)] at e; cases e
  have onF : ∀ b, b ∈ frs X.stack → ∀ o, s.heap.get? b = some o → ∃ sl, G.get? b = some { o with slots := sl } := fun b hb o e => by
    obtain ⟨_, o0, e0, nf⟩ := J.stack.mem hb
    rw [e] at e0; cases e0
    obtain ⟨s1, e1⟩ := ub.slot b o e hb
    obtain ⟨s2, e2⟩ := up b _ e1 nf
    have e3 : h2.get? b = some { o with slots := s2 } := (same2 b (fun z => nC (z ▸ hb))).trans e2
    obtain ⟨s4, e4⟩ := up3 b _ e3 nf
    exact ⟨s4, (r1 b (by simp [hb])).trans e4⟩
  have keepB : ∀ b o, s.heap.get? b = some o → H b = none → b ∉ frs X.stack → b ≠ C → B2.get? b = some o := fun b o e n hb nb => (g1 b nb).trans (ub.keep b o e n hb)
  have thB : ∀ b o, s.heap.get? b = some o → b ∉ frs X.stack → b ≠ C → ∃ o', B2.get? b = some o' := fun b o e hb nb => by
    obtain ⟨o', q⟩ := ub.there b o e hb
    exact ⟨o', (g1 b nb).trans q⟩
  have hokG : HOk X.prog X.w H' G := fun b o q => by
    have nb : b ≠ C := fun z => by
      have := ub.free C oC gC fC.1
      rw [← z, q] at this; cases this
    refine (hok b o q).stay (fun c u hc r => gB c u ((g1 c ?_).trans r)) (fun _ r => r) fun _ _ r => r
    rcases hc with hc | hc
    · rw [hc]; exact nb
    · intro z
      have := ub.free C oC gC fC.1
      rw [← z, hc] at this; cases this
  have J2 : Inv X pins σ H' { s with heap := G, gens := s'.gens, drawn := s'.drawn, toks := s'.toks } := by
    refine J.call (ch := [C]) ⟨fun b o e n hb hc => gB b o (keepB b o e n hb (fun z => hc (by simp [z]))), fun b o e n hb _ => onF b hb o e, fun b o e n _ => ub.free b o e n, fun b o e hc => ?_, ub.tups, ub.frzs, ub.tbls⟩ hokG ag (fun b hb => ?_)
    · by_cases hb : b ∈ frs X.stack
      · obtain ⟨sl, q⟩ := onF b hb o e
        exact ⟨_, q⟩
      · obtain ⟨o', q⟩ := thB b o e hb (fun z => hc (by simp [z]))
        exact ⟨o', gB b o' q⟩
    · rw [List.mem_singleton.mp hb]
      exact ⟨fC.2.2.2.1, fC.2.1, fC.2.2.2.2.1, fC.2.2.2.2.2⟩
  refine ⟨a, B2, _, pins, σ, H', cls, d, rfl, J2, fun b o e hb => ?_, Heap.UpToSlots.of_keeps fun b o e => (inG b o e).1, .inr (.inr (by rw [hs]; exact hh3)), na, os, ag, hE⟩
  obtain ⟨e', z⟩ := inG b o e
  rcases z with z | z
  · obtain ⟨o', q⟩ := Option.isSome_iff_exists.mp z
    have := hh3.1 b o' q
    rw [e'] at this; cases this
    exact q
  · exact absurd z hb
/-- a list comprehension whose element may raise what EX wishes of -/
theorem pe_lcX {elt tg iter : Expr} {ifs : List Expr} {scope : Scope} {own : List (Str × Nat)} {pos : Pos} {wi : TI} {g : TG} {tt : TT} {te : TE} {EX : XK}
    (hc : X.calm = true) (hN : X.N.Nodup) (hst : X.stack = X.env :: X.outer) (hfr : X.env.frame = some X.env.locals) (tk : Takes X fun c d _ H' => EX c d H') (hi : PI X tg iter wi) (ok : BlkOk X.N X.env.scope scope own)
    (hg : ∀ (s0 : Shared) (H0 : Hp) (C : Addr) (cl : List (Str × Addr)) (fp : List Addr), PG (X.blk s0 H0 scope (compEnvC scope cl C X.env) fp) tg g)
    (ht : ∀ (s0 : Shared) (H0 : Hp) (C : Addr) (cl : List (Str × Addr)) (fp : List Addr), PTs (X.blk s0 H0 scope (compEnvC scope cl C X.env) fp) ifs tt)
    (he : ∀ (s0 : Shared) (H0 : Hp) (C : Addr) (cl : List (Str × Addr)) (fp : List Addr) (EE : Value → Shared → Prop), Passes (L2.CX X.prog X.w) ((X.blk s0 H0 scope (compEnvC scope cl C X.env) fp).wish EE) EX → PE ((X.blk s0 H0 scope (compEnvC scope cl C X.env) fp).wish EE) elt te)
    (hs : ∀ x, foldedSetIterable iter X.env x = pure x := by intro _; rfl) : PE X (.ListComp elt [⟨tg, iter, ifs, 0⟩] scope pos) (tLc wi g tt te (own.map (·.2))) := by
  constructor
  intro pins s σ H Q I rd
  have captured : ∀ y ∈ scope.names, y.2 = .free → ∃ c, X.env.cells.lookup y.1 = some c := fun y hy e => (ok.free y hy e).elim (fun k => I.ok.has _ (.inl k)) fun k => I.ok.has _ (.inr k)
  rw [eval_ListComp]
  refine comprehension_at (use := none) rfl hs (closure_ok captured) ok.kind (fun y hy e => (ok.uniq y hy).trans (congrArg some e)) (thn (hi.run pins s σ H _ I rd) fun v1 t1 r1 => thn r1 fun v2 t2 r2 => ?_)
  obtain ⟨it, fp, tn, J, H2, rfl, I2, T, st2, f2, q⟩ := r2
  refine wpAny_newObj_type (newEnv_comp ?_) (by show 0 ≤ sizeLine; decide)
  obtain ⟨D, hD⟩ : ∃ D, D = t2.heap.objs.size := ⟨_, rfl⟩
  rw [← hD]
  have freeD : H2 D = none := I2.hok.fresh (Nat.le_of_eq hD.symm)
  obtain ⟨W, ⟨m0, w0⟩, turn⟩ := q D freeD
  obtain ⟨t3, h3⟩ : ∃ t3 : Shared, t3 = { t2 with heap := t2.heap.push { cls := .type "list", data := .seq ([] : List Value).toArray } } := ⟨_, rfl⟩
  have hp3 : t3.heap = t2.heap.push { cls := .type "list", data := .seq ([] : List Value).toArray } := by rw [h3]
  obtain ⟨H3, hH3⟩ : ∃ H3, H3 = upd H2 D (.lst []) := ⟨_, rfl⟩
  have I3 : Inv X pins σ H3 t3 := by
    have := I2.laid (t' := t2.toks) (a := D) (o := .lst []) (h' := t3.heap) (fun b o e => by rw [hp3]; exact Heap.get?_push_of_some _ e) (Nat.le_of_eq hD.symm) ⟨Nat.zero_le _, [], 0, .nil, by rw [hp3, hD]; exact Heap.get?_push_size _ rfl⟩
    rw [hH3]
    rw [h3] at this ⊢
    exact this
  have younger : ∀ b ∈ fp, b < t2.heap.objs.size := fun b hb => let ⟨_, e, _⟩ := T.obj _ _ st2 b hb; Heap.lt_size e
  have f3 : ∀ b ∈ fp, FpOk X pins H3 b ∧ b < t3.heap.objs.size := fun b hb => by
    have lt := younger b hb
    refine ⟨⟨?_, (f2 b hb).2⟩, by rw [hp3, Heap.size_push]; exact Nat.lt_succ_of_lt lt⟩
    rw [hH3, upd_ne (by rw [hD]; exact Nat.ne_of_lt lt)]
    exact (f2 b hb).1
  have st3 : tn 0 t3.heap := T.keep _ _ _ st2 fun b _ o e => by rw [hp3]; exact Heap.get?_push_of_some _ e
  have I4 := block_start I3 ok hN f3
  obtain ⟨cl, hcl⟩ : ∃ cl, cl = cellsFrom (t3.heap.objs.size + 1) scope.names (cloFrom X.env.cells scope.names []) := ⟨_, rfl⟩
  rw [← hcl] at I4
  obtain ⟨C, hC⟩ : ∃ C, C = t3.heap.objs.size := ⟨_, rfl⟩
  have E4 : ∀ (ce : Env), ce = compEnvC scope cl C X.env → codeAny (model X.prog X.w) X.A (.compStart (.ListComp elt [⟨tg, iter, ifs, 0⟩] scope pos) 0 (.ref it) (.ref D) ce) (compEnds (model X.prog X.w) X.A X.xe none (EP X pins σ Q) (.ref D) ce) { t3 with heap := pushCells (t3.heap.push { cls := .type "dict", data := .dict #[] }) scope.names } := by
    intro ce hce
    have pg := hg t3 H3 C cl fp
    have pt := ht t3 H3 C cl fp
    have pe := he t3 H3 C cl fp
    rw [← hC] at I4
    rw [← hce] at I4 pg pt pe
    have cL : ce.locals = C := by rw [hce]; rfl
    obtain ⟨t4, h4⟩ : ∃ t4 : Shared, t4 = { t3 with heap := pushCells (t3.heap.push { cls := .type "dict", data := .dict #[] }) scope.names } := ⟨_, rfl⟩
    rw [← h4] at I4 ⊢
    have st4 : tn 0 t4.heap := T.keep _ _ _ st3 fun b _ o e => by rw [h4]; exact pushCells_keeps _ _ _ _ (Heap.get?_push_of_some _ e)
    -- back to the def around
    have back : ∀ {p' : List (Addr × Obj)} {σ' : L2.St} {H' : Hp} {s' : Shared}, Inv (X.blk t3 H3 scope ce fp) p' σ' H' s' → Inv X pins σ H' s' ∧ FpOk X pins H' C ∧ ∃ m, s'.heap.Ns C m := fun {p' σ' H' s'} I' => by
      have z : H' ce.locals = none := I'.free
      obtain ⟨m, hn, _⟩ := I'.loc
      have hn' : s'.heap.Ns ce.locals m := hn
      rw [cL] at z hn'
      exact ⟨I3.call' (ch := fp) I'.os I'.base I'.hok I'.bare fun b hb => let f := (f3 b hb).1; ⟨f.2.2.2.1, f.2.1, f.2.2.2.2.1, f.2.2.2.2.2⟩, I3.fpOk (by rw [hC]; exact Nat.le_refl _) z, m, hn'⟩
    have pass : Passes (L2.CX X.prog X.w) ((X.blk t3 H3 scope ce fp).wish (notedBy (model X.prog X.w) X.A ce (CompFails (model X.prog X.w) X.A X.xe ce))) EX := fun p' σ' H' s1 e s2 I' cx => by
      obtain ⟨B1, B2, m, B3⟩ := back I'.unwish
      have := let_out (scope := scope) (cl := cl) hst hfr tk B1 B2 B3 cx
      rw [← hce] at this
      exact this
    have pe' := pe _ pass
    have at_fp : ∀ {σ' : L2.St} {H' : Hp} {s' : Shared}, Inv (X.blk t3 H3 scope ce fp) [] σ' H' s' → (∀ b ∈ fp, H' b = none) → ∀ b ∈ fp, FpOk (X.blk t3 H3 scope ce fp) [] H' b := fun {σ' H' s'} I' hn b hb => by
      refine ⟨hn b hb, (I'.ok.exf b hb).1, I'.ok.exfs b hb, .inl hb, fun x c e => (I'.ok.exf b hb).2 x c e, fun p hp => ?_⟩
      have hp' : p ∈ ([] : List (Addr × Obj)) ++ [] := hp
      cases hp'
    have loop : codeAny (model X.prog X.w) X.A (.compLoop (.ListComp elt [⟨tg, iter, ifs, 0⟩] scope pos) 0 (.ref it) (.ref D) ce) (compEnds (model X.prog X.w) X.A X.xe none (EP X pins σ Q) (.ref D) ce) t4 := by
      refine compLoop_any (fun n t => ∃ (i : Nat) (H' : Hp), Inv (X.blk t3 H3 scope ce fp) [] (wipe σ (own.map (·.2))) H' t ∧ tn i t.heap ∧ (∀ b ∈ fp, H' b = none) ∧ W i n H') ?_ m0 ⟨0, H3, I4, st4, fun b hb => (f3 b hb).1.1, by rw [hH3]; exact w0⟩
      rintro n t5 ⟨i, H5, I5, st5, n5, w5⟩
      rcases turn i n H5 w5 with ⟨stop, fin⟩ | ⟨go, Nx, hNx, one⟩
      · refine thnF (T.done (X.blk t3 H3 scope ce fp) rfl rfl rfl hc i [] t5 _ H5 (fun _ _ => False) I5 (at_fp I5 n5) st5 stop) fun r t6 ⟨hr, I6⟩ => ?_
        subst hr
        obtain ⟨B1, B2, m, B3⟩ := back I6
        refine ⟨m, by rw [cL]; exact B3, fun h'' sb => ?_⟩
        rw [cL] at sb
        obtain ⟨z0, z1, z2, z3, z4, z5⟩ := B2
        exact ⟨.ref D, H5, B1.turned (t' := t6.toks) (fun b o hb e => (sb.2 b hb).trans e) z0 z1 z3 z4 z5, rfl, fin⟩
      · refine thnF (T.item (X.blk t3 H3 scope ce fp) rfl rfl rfl hc i [] t5 _ H5 (fun _ _ => False) I5 (at_fp I5 n5) st5 go) fun r t6 ⟨u, hr, r6⟩ => ?_
        subst hr
        refine thnF r6 fun _ t7 ⟨x, H7, I7, rx, y7, st7, n7⟩ => ?_
        have P7 := I7.pinned (at_fp I7 n7) (T.obj _ _ st7)
        refine thnF (pg.run _ t7 _ H7 x u _ P7 rx (one x H7 y7)) fun _ t8 ⟨σ8, H8, I8, hw8, q8⟩ => ?_
        refine thnF (pt.run _ t8 σ8 H8 _ I8 q8) fun b t9 ⟨H9, I9, q9⟩ => ?_
        have close : ∀ {t : Shared} {H' : Hp}, Inv (X.blk t3 H3 scope ce fp) ([] ++ pinsAt fp t7.heap) σ8 H' t → Nx H' → ∃ m, m < n ∧ ∃ (i : Nat) (H' : Hp), Inv (X.blk t3 H3 scope ce fp) [] (wipe σ (own.map (·.2))) H' t ∧ tn i t.heap ∧ (∀ b ∈ fp, H' b = none) ∧ W i m H' := fun {t H'} I' nx => by
          obtain ⟨m', lt, w'⟩ := hNx H' nx
          have still : ∀ b ∈ fp, ∀ o, t7.heap.get? b = some o → t.heap.get? b = some o ∧ H' b = none := fun b hb o e => by
            have z := I'.pin (b, o) (List.mem_append_right _ (List.mem_append_right _ (mem_pinsAt hb e)))
            exact ⟨z.1, z.2.1⟩
          refine ⟨m', lt, i + 1, H', (I'.unpinned (pins := [])).weak (by rw [← hw8, wipe_length]) (fun j v e => by rw [← hw8] at e; exact (wipe_some e).1), T.keep _ _ _ st7 fun b hb o e => (still b hb o e).1, fun b hb => ?_, w'⟩
          obtain ⟨o, e, _⟩ := T.obj _ _ st7 b hb
          exact (still b hb o e).2
        by_cases hb : b = true
        · subst hb
          rw [if_pos rfl] at q9 ⊢
          refine wpAny_mono (pe'.run _ t9 σ8 H9 _ (I9.wish _) q9) (fun y t10 r10 => ?_) fun _ _ z => z
          obtain ⟨yv, H10, I10, ry, acc, hD10, hz10, nx⟩ := r10
          exact app_ok (X := X.blk t3 H3 scope ce fp) I10.unwish hD10 hz10 ry fun t11 I11 => close I11 nx
        · obtain rfl : b = false := by simpa using hb
          exact close I9 q9
    exact codeAny_compStart_list loop (T.self X.A 0 _ _ _ st4 loop)
  have fin := E4 _ rfl
  rw [hC, hcl, h3] at fin
  exact fin
end
end LX

namespace ZN
open PySem PySem.Spec PyProof.Rows L2
/-! ### zip of three, of four lists -/
abbrev IsTupA (h : Heap) (T : Addr) (a : Array Value) : Prop := h.get? T = some { cls := .type "tuple", data := .seq a }
theorem set_tup {prog : Program} {w : World} {A : Around} {E : Value → Shared → Prop} {s : Shared} {T : Addr} {a : Array Value} {x : Value} {k : Nat} {Q : Unit → Shared → Prop} (hT : IsTupA s.heap T a) (hz : a.size ≤ sizeLine)
    (q : ∀ h', IsTupA h' T (a.setIfInBounds k x) → (∀ c o, c ≠ T → s.heap.get? c = some o → h'.get? c = some o) → h'.objs.size = s.heap.objs.size → Q () { s with heap := h' }) : wpAny (model prog w) A (updateSeq T (·.setIfInBounds k x)) Q E s := by
  have sb : Heap.SameBut T s.heap (s.heap.update T (Obj.mapSeq (·.setIfInBounds k x))) := Heap.SameBut.update ..
  refine wpAny_updateSeq hT rfl (q _ ?_ (fun c o n e => (sb.2 c n).trans e) sb.1) hz (by rw [Array.size_setIfInBounds]; exact Nat.le_succ_of_le hz)
  show (s.heap.update T _).get? T = _
  rw [Heap.get?_update_self _ hT rfl]
  simp [Obj.mapSeq]
theorem vals_cons {v : V} {vs : List V} {us : List Value} (h : Vals (v :: vs) us) : ∃ u ws, us = u :: ws ∧ RelV v u ∧ Vals vs ws := by
  cases h with
  | cons a b => exact ⟨_, _, rfl, a, b⟩
theorem vals_nil {us : List Value} (h : Vals [] us) : us = [] := by cases h; rfl
theorem at_top {h : Heap} {o o' : Obj} {a : Addr} (e : a = h.objs.size) (q : (h.push o).get? h.objs.size = some o') : (h.push o).get? a = some o' := e ▸ q
section
variable {prog : Program} {w : World} {A : Around} {E : Value → Shared → Prop} {s : Shared}
theorem item3 {z TI TO i1 i2 i3 l1 l2 l3 : Addr} {k : Nat} {xs1 xs2 xs3 : Array Value} {a1 a2 a3 : Value} {x1 x2 x3 : Value} {Q : Value → Shared → Prop} (D : [z, TI, TO, i1, i2, i3].Nodup) (d1 : l1 ∉ [z, TO, i1, i2, i3]) (d2 : l2 ∉ [z, TO, i1, i2, i3]) (d3 : l3 ∉ [z, TO, i1, i2, i3]) (hz : IsZip s.heap z TI TO .none) (hI : IsTupA s.heap TI #[.ref i1, .ref i2, .ref i3]) (hO : IsTupA s.heap TO #[a1, a2, a3]) (h1 : s.heap.IsListIter i1 l1 k) (g1 : s.heap.IsList l1 xs1) (h2 : s.heap.IsListIter i2 l2 k) (g2 : s.heap.IsList l2 xs2) (h3 : s.heap.IsListIter i3 l3 k) (g3 : s.heap.IsList l3 xs3) (e1 : xs1[k]? = some x1) (e2 : xs2[k]? = some x2) (e3 : xs3[k]? = some x3)
    (hQ : ∀ h', IsZip h' z TI TO (rawInt s.heap.objs.size) → IsTupA h' TO #[x1, x2, x3] → h'.IsListIter i1 l1 (k + 1) → h'.IsListIter i2 l2 (k + 1) → h'.IsListIter i3 l3 (k + 1) → IsTupA h' s.heap.objs.size #[x1, x2, x3] → h'.objs.size = s.heap.objs.size + 1 → (∀ c o, c ∉ [z, TO, i1, i2, i3] → s.heap.get? c = some o → h'.get? c = some o) → Q (.ref s.heap.objs.size) { s with heap := h' }) :
    wpAny (model prog w) A (Builtin.«zip.__next__» ⟨[.ref z], []⟩) (fun fin s' => ∃ v, fin = .done (.ret v) ∧ Q v s') E s := by
  have nTz : TO ≠ z := fun q => by simp [q] at D
  have nz1 : i1 ≠ z := fun q => by simp [q] at D
  have nT1 : i1 ≠ TO := fun q => by simp [q] at D
  have n12 : i1 ≠ i2 := fun q => by simp [q] at D
  have n13 : i1 ≠ i3 := fun q => by simp [q] at D
  have lz1 : l1 ≠ z := fun q => d1 (by simp [q])
  have lT1 : l1 ≠ TO := fun q => d1 (by simp [q])
  have ll11 : l1 ≠ i1 := fun q => d1 (by simp [q])
  have ll12 : l1 ≠ i2 := fun q => d1 (by simp [q])
  have ll13 : l1 ≠ i3 := fun q => d1 (by simp [q])
  have nz2 : i2 ≠ z := fun q => by simp [q] at D
  have nT2 : i2 ≠ TO := fun q => by simp [q] at D
  have n23 : i2 ≠ i3 := fun q => by simp [q] at D
  have lz2 : l2 ≠ z := fun q => d2 (by simp [q])
  have lT2 : l2 ≠ TO := fun q => d2 (by simp [q])
  have ll21 : l2 ≠ i1 := fun q => d2 (by simp [q])
  have ll22 : l2 ≠ i2 := fun q => d2 (by simp [q])
  have ll23 : l2 ≠ i3 := fun q => d2 (by simp [q])
  have nz3 : i3 ≠ z := fun q => by simp [q] at D
  have nT3 : i3 ≠ TO := fun q => by simp [q] at D
  have lz3 : l3 ≠ z := fun q => d3 (by simp [q])
  have lT3 : l3 ≠ TO := fun q => d3 (by simp [q])
  have ll31 : l3 ≠ i1 := fun q => d3 (by simp [q])
  have ll32 : l3 ≠ i2 := fun q => d3 (by simp [q])
  have ll33 : l3 ≠ i3 := fun q => d3 (by simp [q])
  show wpAny _ _ (field (.ref z) 2 >>= _) _ _ s
  refine wpAny_bind (wpAny_field hz rfl (x := .bool false) rfl ?_)
  show wpAny _ _ (field (.ref z) 3 >>= _) _ _ s
  refine wpAny_bind (wpAny_field hz rfl (x := .ref TI) rfl (wpAny_bind (wpAny_seqItems hI rfl ?_)))
  show wpAny _ _ (Builtin.SmallTypes.ownedTupleIsFree (.ref z) >>= _) _ _ s
  unfold Builtin.SmallTypes.ownedTupleIsFree
  refine wpAny_bind (wpAny_bind (wpAny_field hz rfl (x := .none) rfl (wpAny_pure ?_)))
  simp only [if_true]
  refine wpAny_bind (wpAny_rule (wpAny_bind (wpAny_field hz rfl (x := .ref TO) rfl (wpAny_bind (wpAny_setField_rec hz (by simp) fun b0 z0 c0 => ?_)))))
  have z0 : IsZip b0 z TI TO .ellipsis := z0
  have K0 : ∀ c o, c ∉ [z, TO, i1, i2, i3] → s.heap.get? c = some o → b0.get? c = some o := fun c o m e => (c0.2 c (fun q => m (by simp [q]))).trans e
  have S0 := c0.1
  have O0 : IsTupA b0 TO #[a1, a2, a3] := (c0.2 TO nTz).trans hO
  have I0_1 : b0.IsListIter i1 l1 k := h1.at fun o e => (c0.2 _ nz1).trans e
  have L0_1 : b0.IsList l1 xs1 := g1.at fun o e => (c0.2 _ lz1).trans e
  have I0_2 : b0.IsListIter i2 l2 k := h2.at fun o e => (c0.2 _ nz2).trans e
  have L0_2 : b0.IsList l2 xs2 := g2.at fun o e => (c0.2 _ lz2).trans e
  have I0_3 : b0.IsListIter i3 l3 k := h3.at fun o e => (c0.2 _ nz3).trans e
  have L0_3 : b0.IsList l3 xs3 := g3.at fun o e => (c0.2 _ lz3).trans e
  refine wpAny_bind ?_
  simp only [List.zipIdx_cons, List.zipIdx_nil, List.forIn_cons, List.forIn_nil]
  refine wpAny_bind (wpAny_bind (wpAny_onRaise ?_))
  show wpAny _ _ (Builtin.SmallTypes.nextOf (.ref i1) >>= _) _ _ _
  refine wpAny_bind (wpAny_nextOf_list_item (s := { s with heap := b0 }) I0_1 L0_1 e1 fun m1 J1 c1 => wpAny_pure ?_)
  have P1 : IsTupA m1 TO #[a1, a2, a3] := (c1.2 TO nT1.symm).trans O0
  refine wpAny_bind (wpAny_seqItems (s := { s with heap := m1 }) P1 rfl (wpAny_bind (set_tup (s := { s with heap := m1 }) P1 (by show 3 ≤ sizeLine; decide) fun b1 O1 u1 S1' => wpAny_bind (wpAny_letGo (wpAny_pure ?_)))))
  have O1 : IsTupA b1 TO #[x1, a2, a3] := O1
  have z1 : IsZip b1 z TI TO .ellipsis := u1 _ _ nTz.symm ((c1.2 z nz1.symm).trans z0)
  have K1 : ∀ c o, c ∉ [z, TO, i1, i2, i3] → s.heap.get? c = some o → b1.get? c = some o := fun c o m e => u1 c o (fun q => m (by simp [q])) ((c1.2 c (fun q => m (by simp [q]))).trans (K0 c o m e))
  have S1 : b1.objs.size = s.heap.objs.size := S1'.trans (c1.1.trans S0)
  have I1_1 : b1.IsListIter i1 l1 (k + 1) := J1.at fun o e => u1 _ o nT1 e
  have L1_1 : b1.IsList l1 xs1 := L0_1.at fun o e => u1 _ o lT1 ((c1.2 _ ll11).trans e)
  have I1_2 : b1.IsListIter i2 l2 k := I0_2.at fun o e => u1 _ o nT2 ((c1.2 _ n12.symm).trans e)
  have L1_2 : b1.IsList l2 xs2 := L0_2.at fun o e => u1 _ o lT2 ((c1.2 _ ll21).trans e)
  have I1_3 : b1.IsListIter i3 l3 k := I0_3.at fun o e => u1 _ o nT3 ((c1.2 _ n13.symm).trans e)
  have L1_3 : b1.IsList l3 xs3 := L0_3.at fun o e => u1 _ o lT3 ((c1.2 _ ll31).trans e)
  refine wpAny_bind (wpAny_bind (wpAny_onRaise ?_))
  show wpAny _ _ (Builtin.SmallTypes.nextOf (.ref i2) >>= _) _ _ _
  refine wpAny_bind (wpAny_nextOf_list_item (s := { s with heap := b1 }) I1_2 L1_2 e2 fun m2 J2 c2 => wpAny_pure ?_)
  have P2 : IsTupA m2 TO #[x1, a2, a3] := (c2.2 TO nT2.symm).trans O1
  refine wpAny_bind (wpAny_seqItems (s := { s with heap := m2 }) P2 rfl (wpAny_bind (set_tup (s := { s with heap := m2 }) P2 (by show 3 ≤ sizeLine; decide) fun b2 O2 u2 S2' => wpAny_bind (wpAny_letGo (wpAny_pure ?_)))))
  have O2 : IsTupA b2 TO #[x1, x2, a3] := O2
  have z2 : IsZip b2 z TI TO .ellipsis := u2 _ _ nTz.symm ((c2.2 z nz2.symm).trans z1)
  have K2 : ∀ c o, c ∉ [z, TO, i1, i2, i3] → s.heap.get? c = some o → b2.get? c = some o := fun c o m e => u2 c o (fun q => m (by simp [q])) ((c2.2 c (fun q => m (by simp [q]))).trans (K1 c o m e))
  have S2 : b2.objs.size = s.heap.objs.size := S2'.trans (c2.1.trans S1)
  have I2_1 : b2.IsListIter i1 l1 (k + 1) := I1_1.at fun o e => u2 _ o nT1 ((c2.2 _ n12).trans e)
  have L2_1 : b2.IsList l1 xs1 := L1_1.at fun o e => u2 _ o lT1 ((c2.2 _ ll12).trans e)
  have I2_2 : b2.IsListIter i2 l2 (k + 1) := J2.at fun o e => u2 _ o nT2 e
  have L2_2 : b2.IsList l2 xs2 := L1_2.at fun o e => u2 _ o lT2 ((c2.2 _ ll22).trans e)
  have I2_3 : b2.IsListIter i3 l3 k := I1_3.at fun o e => u2 _ o nT3 ((c2.2 _ n23.symm).trans e)
  have L2_3 : b2.IsList l3 xs3 := L1_3.at fun o e => u2 _ o lT3 ((c2.2 _ ll32).trans e)
  refine wpAny_bind (wpAny_bind (wpAny_onRaise ?_))
  show wpAny _ _ (Builtin.SmallTypes.nextOf (.ref i3) >>= _) _ _ _
  refine wpAny_bind (wpAny_nextOf_list_item (s := { s with heap := b2 }) I2_3 L2_3 e3 fun m3 J3 c3 => wpAny_pure ?_)
  have P3 : IsTupA m3 TO #[x1, x2, a3] := (c3.2 TO nT3.symm).trans O2
  refine wpAny_bind (wpAny_seqItems (s := { s with heap := m3 }) P3 rfl (wpAny_bind (set_tup (s := { s with heap := m3 }) P3 (by show 3 ≤ sizeLine; decide) fun b3 O3 u3 S3' => wpAny_bind (wpAny_letGo (wpAny_pure (wpAny_pure ?_))))))
  have O3 : IsTupA b3 TO #[x1, x2, x3] := O3
  have z3 : IsZip b3 z TI TO .ellipsis := u3 _ _ nTz.symm ((c3.2 z nz3.symm).trans z2)
  have K3 : ∀ c o, c ∉ [z, TO, i1, i2, i3] → s.heap.get? c = some o → b3.get? c = some o := fun c o m e => u3 c o (fun q => m (by simp [q])) ((c3.2 c (fun q => m (by simp [q]))).trans (K2 c o m e))
  have S3 : b3.objs.size = s.heap.objs.size := S3'.trans (c3.1.trans S2)
  have I3_1 : b3.IsListIter i1 l1 (k + 1) := I2_1.at fun o e => u3 _ o nT1 ((c3.2 _ n13).trans e)
  have L3_1 : b3.IsList l1 xs1 := L2_1.at fun o e => u3 _ o lT1 ((c3.2 _ ll13).trans e)
  have I3_2 : b3.IsListIter i2 l2 (k + 1) := I2_2.at fun o e => u3 _ o nT2 ((c3.2 _ n23).trans e)
  have L3_2 : b3.IsList l2 xs2 := L2_2.at fun o e => u3 _ o lT2 ((c3.2 _ ll23).trans e)
  have I3_3 : b3.IsListIter i3 l3 (k + 1) := J3.at fun o e => u3 _ o nT3 e
  have L3_3 : b3.IsList l3 xs3 := L2_3.at fun o e => u3 _ o lT3 ((c3.2 _ ll33).trans e)
  refine wpAny_bind (wpAny_seqItems (s := { s with heap := b3 }) O3 rfl (wpAny_bind (wpAny_newTuple ?_)))
  show wpAny _ _ (Builtin.SmallTypes.ownedTupleHandOut (.ref z) (.ref b3.objs.size) >>= _) _ _ _
  unfold Builtin.SmallTypes.ownedTupleHandOut
  have zlt : z < b3.objs.size := Heap.lt_size z3
  have zP : IsZip (b3.push { cls := .type "tuple", data := .seq #[x1, x2, x3] }) z TI TO .ellipsis := Heap.get?_push_of_some _ z3
  refine wpAny_bind (wpAny_bind (wpAny_setField_rec (s := { s with heap := b3.push { cls := .type "tuple", data := .seq #[x1, x2, x3] } }) zP (by simp) fun v1 y1 t1 => ?_))
  have y1 : IsZip v1 z TI TO (rawInt b3.objs.size) := y1
  refine wpAny_setField_rec (s := { s with heap := v1 }) y1 (by simp) fun v2 y2 t2 => ?_
  have y2 : IsZip v2 z TI TO (rawInt b3.objs.size) := y2
  have go : ∀ c o, c ≠ z → b3.get? c = some o → v2.get? c = some o := fun c o m e => (t2.2 c m).trans ((t1.2 c m).trans (Heap.get?_push_of_some _ e))
  have nw : IsTupA v2 b3.objs.size #[x1, x2, x3] := (t2.2 _ (Nat.ne_of_gt zlt)).trans ((t1.2 _ (Nat.ne_of_gt zlt)).trans (Heap.get?_push_size _ rfl))
  have sz : v2.objs.size = b3.objs.size + 1 := t2.1.trans (t1.1.trans (Heap.size_push ..))
  rw [S3] at y2 nw sz
  refine wpAny_pure ⟨_, rfl, ?_⟩
  show Q (.ref b3.objs.size) _
  rw [S3]
  exact hQ v2 y2 (go _ _ nTz O3) (I3_1.at fun o e => go _ o nz1 e) (I3_2.at fun o e => go _ o nz2 e) (I3_3.at fun o e => go _ o nz3 e) nw sz fun c o m e => go c o (fun q => m (by simp [q])) (K3 c o m e)
theorem end3 {z TI TO i1 i2 i3 l1 l2 l3 : Addr} {k : Nat} {xs1 xs2 xs3 : Array Value} {a1 a2 a3 : Value} {Q : Fin → Shared → Prop} (hh : A.handled = none) (D : [z, TI, TO, i1, i2, i3].Nodup) (d1 : l1 ∉ [z, TO, i1, i2, i3]) (d2 : l2 ∉ [z, TO, i1, i2, i3]) (d3 : l3 ∉ [z, TO, i1, i2, i3]) (hz : IsZip s.heap z TI TO .none) (hI : IsTupA s.heap TI #[.ref i1, .ref i2, .ref i3]) (hO : IsTupA s.heap TO #[a1, a2, a3]) (h1 : s.heap.IsListIter i1 l1 k) (g1 : s.heap.IsList l1 xs1) (h2 : s.heap.IsListIter i2 l2 k) (g2 : s.heap.IsList l2 xs2) (h3 : s.heap.IsListIter i3 l3 k) (g3 : s.heap.IsList l3 xs3) (e1 : xs1[k]? = none)
    (hE : ∀ h' e, (∀ c o, c ∉ [z, TO, i1, i2, i3] → s.heap.get? c = some o → h'.get? c = some o) → (∃ o, h'.get? e = some o ∧ o.cls = .type "StopIteration") → E (.ref e) { s with heap := h' }) :
    wpAny (model prog w) A (Builtin.«zip.__next__» ⟨[.ref z], []⟩) Q E s := by
  have nz1 : i1 ≠ z := fun q => by simp [q] at D
  have lz1 : l1 ≠ z := fun q => d1 (by simp [q])
  show wpAny _ _ (field (.ref z) 2 >>= _) _ _ s
  refine wpAny_bind (wpAny_field hz rfl (x := .bool false) rfl ?_)
  show wpAny _ _ (field (.ref z) 3 >>= _) _ _ s
  refine wpAny_bind (wpAny_field hz rfl (x := .ref TI) rfl (wpAny_bind (wpAny_seqItems hI rfl ?_)))
  show wpAny _ _ (Builtin.SmallTypes.ownedTupleIsFree (.ref z) >>= _) _ _ s
  unfold Builtin.SmallTypes.ownedTupleIsFree
  refine wpAny_bind (wpAny_bind (wpAny_field hz rfl (x := .none) rfl (wpAny_pure ?_)))
  simp only [if_true]
  refine wpAny_bind (wpAny_rule (wpAny_bind (wpAny_field hz rfl (x := .ref TO) rfl (wpAny_bind (wpAny_setField_rec hz (by simp) fun b0 z0 c0 => ?_)))))
  have z0 : IsZip b0 z TI TO .ellipsis := z0
  refine wpAny_bind ?_
  simp only [List.zipIdx_cons, List.zipIdx_nil, List.forIn_cons, List.forIn_nil]
  refine wpAny_bind (wpAny_bind (wpAny_onRaise ?_))
  show wpAny _ _ (Builtin.SmallTypes.nextOf (.ref i1) >>= _) _ _ _
  refine wpAny_bind (wpAny_nextOf_list_end (s := { s with heap := b0 }) hh (h1.at fun o e => (c0.2 _ nz1).trans e) (g1.at fun o e => (c0.2 _ lz1).trans e) e1 fun b2 e c2 he => ?_)
  obtain ⟨oe, he1, he2⟩ := he
  have zz : IsZip b2 z TI TO .ellipsis := c2 _ _ nz1.symm z0
  have ne : e ≠ z := fun q => by rw [q, zz] at he1; cases he1; simp at he2
  refine wpAny_setField_rec (s := { s with heap := b2 }) zz (by simp) fun b3 _ c3 => hE b3 e (fun c o m q => (c3.2 c (fun r => m (by simp [r]))).trans (c2 _ _ (fun r => m (by simp [r])) ((c0.2 c (fun r => m (by simp [r]))).trans q))) ⟨oe, (c3.2 _ ne).trans he1, he2⟩
theorem next3 {z TI TO i1 i2 i3 l1 l2 l3 : Addr} {k : Nat} {xs1 xs2 xs3 : Array Value} {a1 a2 a3 : Value} {x1 x2 x3 : Value} {Q : Option Value → Shared → Prop} (D : [z, TI, TO, i1, i2, i3].Nodup) (d1 : l1 ∉ [z, TO, i1, i2, i3]) (d2 : l2 ∉ [z, TO, i1, i2, i3]) (d3 : l3 ∉ [z, TO, i1, i2, i3]) (hz : IsZip s.heap z TI TO .none) (hI : IsTupA s.heap TI #[.ref i1, .ref i2, .ref i3]) (hO : IsTupA s.heap TO #[a1, a2, a3]) (h1 : s.heap.IsListIter i1 l1 k) (g1 : s.heap.IsList l1 xs1) (h2 : s.heap.IsListIter i2 l2 k) (g2 : s.heap.IsList l2 xs2) (h3 : s.heap.IsListIter i3 l3 k) (g3 : s.heap.IsList l3 xs3) (e1 : xs1[k]? = some x1) (e2 : xs2[k]? = some x2) (e3 : xs3[k]? = some x3)
    (hQ : ∀ h', IsZip h' z TI TO (rawInt s.heap.objs.size) → IsTupA h' TO #[x1, x2, x3] → h'.IsListIter i1 l1 (k + 1) → h'.IsListIter i2 l2 (k + 1) → h'.IsListIter i3 l3 (k + 1) → IsTupA h' s.heap.objs.size #[x1, x2, x3] → h'.objs.size = s.heap.objs.size + 1 → (∀ c o, c ∉ [z, TO, i1, i2, i3] → s.heap.get? c = some o → h'.get? c = some o) → Q (some (.ref s.heap.objs.size)) { s with heap := h' }) :
    wpAny (model prog w) A (pyNext (.ref z)) Q E s := by
  have ty : s.TypeIs (.ref z) "zip" := ⟨_, hz, rfl⟩
  unfold pyNext
  exact wpAny_bind (wpAny_attempt (wpAny_callSpecial?_slot (name := Str.ofString "__next__") ty F.slot_zip_next (wpAny_call_entry F.slot_zip_next ty F.entry_zip_next (item3 D d1 d2 d3 hz hI hO h1 g1 h2 g2 h3 g3 e1 e2 e3 fun h' b1 b2 p1 p2 p3 b3 b4 b5 => wpAny_pure (hQ h' b1 b2 p1 p2 p3 b3 b4 b5)) (F.args_zip_next_1 _))))
theorem stop3 {z TI TO i1 i2 i3 l1 l2 l3 : Addr} {k : Nat} {xs1 xs2 xs3 : Array Value} {a1 a2 a3 : Value} {Q : Option Value → Shared → Prop} (hh : A.handled = none) (D : [z, TI, TO, i1, i2, i3].Nodup) (d1 : l1 ∉ [z, TO, i1, i2, i3]) (d2 : l2 ∉ [z, TO, i1, i2, i3]) (d3 : l3 ∉ [z, TO, i1, i2, i3]) (hz : IsZip s.heap z TI TO .none) (hI : IsTupA s.heap TI #[.ref i1, .ref i2, .ref i3]) (hO : IsTupA s.heap TO #[a1, a2, a3]) (h1 : s.heap.IsListIter i1 l1 k) (g1 : s.heap.IsList l1 xs1) (h2 : s.heap.IsListIter i2 l2 k) (g2 : s.heap.IsList l2 xs2) (h3 : s.heap.IsListIter i3 l3 k) (g3 : s.heap.IsList l3 xs3) (e1 : xs1[k]? = none) (hQ : ∀ h', (∀ c o, c ∉ [z, TO, i1, i2, i3] → s.heap.get? c = some o → h'.get? c = some o) → Q none { s with heap := h' }) : wpAny (model prog w) A (pyNext (.ref z)) Q E s := by
  have ty : s.TypeIs (.ref z) "zip" := ⟨_, hz, rfl⟩
  unfold pyNext
  refine wpAny_bind (wpAny_attempt (wpAny_callSpecial?_slot (name := Str.ofString "__next__") ty F.slot_zip_next (wpAny_call_entry F.slot_zip_next ty F.entry_zip_next (end3 hh D d1 d2 d3 hz hI hO h1 g1 h2 g2 h3 g3 e1 fun h' e hk he => ?_) (F.args_zip_next_1 _))))
  obtain ⟨o, q1, q2⟩ := he
  exact wpAny_bind (wpAny_isInstance (T := "StopIteration") (b := true) ⟨o, q1, q2⟩ isSubtype_stop (wpAny_pure (hQ _ hk)))
theorem made3 {l1 l2 l3 : Addr} {xs1 xs2 xs3 : Array Value} :
    Meets (Builtin.«zip.__new__» ⟨[.type "zip", .ref l1, .ref l2, .ref l3], []⟩) (fun _ R s => s.heap.IsList l1 xs1 ∧ s.heap.IsList l2 xs2 ∧ s.heap.IsList l3 xs3 ∧ ∀ h', IsZip h' (s.heap.objs.size + 5) (s.heap.objs.size + 3) (s.heap.objs.size + 4) .none → IsTupA h' (s.heap.objs.size + 3) #[.ref s.heap.objs.size, .ref (s.heap.objs.size + 1), .ref (s.heap.objs.size + 2)] → IsTupA h' (s.heap.objs.size + 4) #[.none, .none, .none] → h'.IsListIter s.heap.objs.size l1 0 → h'.IsListIter (s.heap.objs.size + 1) l2 0 → h'.IsListIter (s.heap.objs.size + 2) l3 0 → (∀ c o, s.heap.get? c = some o → h'.get? c = some o) → R (.ok (.ret (.ref (s.heap.objs.size + 5)))) { s with heap := h' }) :=
  .of_wp fun prog w A R s hyp => by
    obtain ⟨hp, g, d, tk, os⟩ := s
    obtain ⟨q1, q2, q3, fin⟩ := hyp
    have hsub := sub_zip
    have r1 : Heap.IsList (Shared.heap ⟨hp, g, d, tk, os⟩) l1 xs1 := q1
    have r2 : Heap.IsList (Shared.heap ⟨hp.push { cls := .type "list_iterator", data := .fields #[.ref l1, .int 0 0] }, g, d, tk, os⟩) l2 xs2 := Heap.IsList.push (q2) _
    have r3 : Heap.IsList (Shared.heap ⟨(hp.push { cls := .type "list_iterator", data := .fields #[.ref l1, .int 0 0] }).push { cls := .type "list_iterator", data := .fields #[.ref l2, .int 0 0] }, g, d, tk, os⟩) l3 xs3 := Heap.IsList.push (Heap.IsList.push (q3) _) _
    wp_walk using wpAny_pyIter_list r1, wpAny_pyIter_list r2, wpAny_pyIter_list r3
    refine ⟨_, rfl, ?_⟩
    simp only [Heap.size_push]
    exact fin _ (at_top (by simp only [Heap.size_push]) (Heap.get?_push_size _ rfl)) (Heap.get?_push_of_some _ (Heap.get?_push_of_some _ (at_top (by simp only [Heap.size_push]) (Heap.get?_push_size _ rfl)))) (Heap.get?_push_of_some _ (at_top (by simp only [Heap.size_push]) (Heap.get?_push_size _ rfl))) ⟨_, (Heap.get?_push_of_some _ (Heap.get?_push_of_some _ (Heap.get?_push_of_some _ (Heap.get?_push_of_some _ (Heap.get?_push_of_some _ (at_top (by simp only [Heap.size_push]) (Heap.get?_push_size _ rfl))))))), rfl, rfl⟩ ⟨_, (Heap.get?_push_of_some _ (Heap.get?_push_of_some _ (Heap.get?_push_of_some _ (Heap.get?_push_of_some _ (at_top (by simp only [Heap.size_push]) (Heap.get?_push_size _ rfl)))))), rfl, rfl⟩ ⟨_, (Heap.get?_push_of_some _ (Heap.get?_push_of_some _ (Heap.get?_push_of_some _ (at_top (by simp only [Heap.size_push]) (Heap.get?_push_size _ rfl))))), rfl, rfl⟩ fun c o e => (Heap.get?_push_of_some _ (Heap.get?_push_of_some _ (Heap.get?_push_of_some _ (Heap.get?_push_of_some _ (Heap.get?_push_of_some _ (Heap.get?_push_of_some _ e))))))
theorem call3 {l1 l2 l3 : Addr} {xs1 xs2 xs3 : Array Value} {Q : Value → Shared → Prop} (g1 : s.heap.IsList l1 xs1) (g2 : s.heap.IsList l2 xs2) (g3 : s.heap.IsList l3 xs3)
    (h : ∀ h', IsZip h' (s.heap.objs.size + 5) (s.heap.objs.size + 3) (s.heap.objs.size + 4) .none → IsTupA h' (s.heap.objs.size + 3) #[.ref s.heap.objs.size, .ref (s.heap.objs.size + 1), .ref (s.heap.objs.size + 2)] → IsTupA h' (s.heap.objs.size + 4) #[.none, .none, .none] → h'.IsListIter s.heap.objs.size l1 0 → h'.IsListIter (s.heap.objs.size + 1) l2 0 → h'.IsListIter (s.heap.objs.size + 2) l3 0 → (∀ c o, s.heap.get? c = some o → h'.get? c = some o) → Q (.ref (s.heap.objs.size + 5)) { s with heap := h' }) :
    wpAny (model prog w) A (call (.type "zip") [.ref l1, .ref l2, .ref l3]) Q E s :=
  callType_new F.called_zip (by decide) (by kernel_rfl) (by kernel_rfl) (fun obj => by
    unfold argsOk
    rw [signature?_of (id := "object.__init__") (n := ['_', '_', 't', 'i', 'n', 'i', '_', '_']) (o := ['t', 'c', 'e', 'j', 'b', 'o']) (by kernel_rfl) F.owner_object]
    kernel_rfl) F.entry_zip_new (made3 (xs1 := xs1) (xs2 := xs2) (xs3 := xs3)) ⟨g1, g2, g3, fun h' b1 b2 b3 p1 p2 p3 b5 => ⟨⟨_, b1, rfl⟩, h h' b1 b2 b3 p1 p2 p3 b5⟩⟩
end
/-- the lists as they stand at each turn, the items in new tuples -/
def It3 (K : PySem.W.Frag) (l1 l2 l3 : Addr) : It :=
  ⟨fun i H => ∃ (ys1 ys2 ys3 : List V) (x1 x2 x3 : V), SqL K H l1 ys1 ∧ SqL K H l2 ys2 ∧ SqL K H l3 ys3 ∧ ys1[i]? = some x1 ∧ ys2[i]? = some x2 ∧ ys3[i]? = some x3,
    fun i H v H' => ∃ (T : Addr) (x1 x2 x3 : V), v = .ref T ∧ H T = none ∧ H' = upd H T (.tup [x1, x2, x3]) ∧ (∀ ys, SqL K H l1 ys → ys[i]? = some x1) ∧ (∀ ys, SqL K H l2 ys → ys[i]? = some x2) ∧ (∀ ys, SqL K H l3 ys → ys[i]? = some x3),
    fun i H => ∃ ys1 ys2 ys3 : List V, SqL K H l1 ys1 ∧ SqL K H l2 ys2 ∧ SqL K H l3 ys3 ∧ ys1.length ≤ i⟩
theorem turn3 {P : Program} {w : World} {K : PySem.W.Frag} {elts : List Expr} {kk : Nat} {tpos : Pos} {z TI TO i1 i2 i3 l1 l2 l3 : Addr} (D : [z, TI, TO, i1, i2, i3].Nodup) (d1 : l1 ∉ [z, TO, i1, i2, i3]) (d2 : l2 ∉ [z, TO, i1, i2, i3]) (d3 : l3 ∉ [z, TO, i1, i2, i3]) :
    Turn P w K (.Tuple elts kk tpos) (It3 K l1 l2 l3) [z, TI, TO, i1, i2, i3] z (fun i h => IsZip h z TI TO .none ∧ IsTupA h TI #[.ref i1, .ref i2, .ref i3] ∧ (∃ a1 a2 a3, IsTupA h TO #[a1, a2, a3]) ∧ h.IsListIter i1 l1 i ∧ h.IsListIter i2 l2 i ∧ h.IsListIter i3 l3 i) := by
  have nTI : TI ≠ z := fun q => by simp [q] at D
  have nTIO : TI ≠ TO := fun q => by simp [q] at D
  have nTO : TO ≠ z := fun q => by simp [q] at D
  have nTI1 : TI ≠ i1 := fun q => by simp [q] at D
  have nz1 : i1 ≠ z := fun q => by simp [q] at D
  have nTI2 : TI ≠ i2 := fun q => by simp [q] at D
  have nz2 : i2 ≠ z := fun q => by simp [q] at D
  have nTI3 : TI ≠ i3 := fun q => by simp [q] at D
  have nz3 : i3 ≠ z := fun q => by simp [q] at D
  refine ⟨by simp, fun i h st c hc => ?_, fun i h h' st k => ?_, ?_, ?_, fun A i s Q E st h => wpAny_pyIter_zip st.1 h⟩
  · obtain ⟨hz, hI, ⟨a1, a2, a3, hO⟩, h1, h2, h3⟩ := st
    have hc : c = z ∨ c = TI ∨ c = TO ∨ c = i1 ∨ c = i2 ∨ c = i3 := by simpa using hc
    rcases hc with rfl | rfl | rfl | rfl | rfl | rfl
    · exact ⟨_, hz, fun v q => nomatch q⟩
    · exact ⟨_, hI, fun v q => nomatch q⟩
    · exact ⟨_, hO, fun v q => nomatch q⟩
    · obtain ⟨o, e, _, dd⟩ := h1
      exact ⟨o, e, fun v q => by rw [dd] at q; cases q⟩
    · obtain ⟨o, e, _, dd⟩ := h2
      exact ⟨o, e, fun v q => by rw [dd] at q; cases q⟩
    · obtain ⟨o, e, _, dd⟩ := h3
      exact ⟨o, e, fun v q => by rw [dd] at q; cases q⟩
  · obtain ⟨hz, hI, ⟨a1, a2, a3, hO⟩, h1, h2, h3⟩ := st
    exact ⟨k z (by simp) _ hz, k TI (by simp) _ hI, ⟨a1, a2, a3, k TO (by simp) _ hO⟩, h1.at fun o q => k i1 (by simp) o q, h2.at fun o q => k i2 (by simp) o q, h3.at fun o q => k i3 (by simp) o q⟩
  · intro X hP hw hK hc i pins s σ H E I hf st hg
    subst hP hw hK
    obtain ⟨hz, hI, ⟨a1, a2, a3, hO⟩, h1, h2, h3⟩ := st
    obtain ⟨ys1, ys2, ys3, x1, x2, x3, q1, q2, q3, e1, e2, e3⟩ := hg
    obtain ⟨t1, r1, p1, _⟩ := I.list q1
    obtain ⟨u1, v1, w1⟩ := r1.get e1
    obtain ⟨t2, r2, p2, _⟩ := I.list q2
    obtain ⟨u2, v2, w2⟩ := r2.get e2
    obtain ⟨t3, r3, p3, _⟩ := I.list q3
    obtain ⟨u3, v3, w3⟩ := r3.get e3
    have zl : z < s.heap.objs.size := Heap.lt_size hz
    refine next3 D d1 d2 d3 hz hI hO h1 p1.isList h2 p2.isList h3 p3.isList (x1 := u1) (x2 := u2) (x3 := u3) (by simpa using v1) (by simpa using v2) (by simpa using v3) fun h' z1 O1 j1 j2 j3 T1 sz1 k1 => ?_
    refine ⟨_, rfl, wpAny_letOwnedTupleGo_zip (s := { s with heap := h' }) z1 fun h2 z2 sb => ?_⟩
    have T2 : IsTupA h2 s.heap.objs.size #[u1, u2, u3] := (sb.2 _ (Nat.ne_of_gt zl)).trans T1
    have new : ObjOk X.prog X.w (upd H s.heap.objs.size (.tup [x1, x2, x3])) h2 s.heap.objs.size (.tup [x1, x2, x3]) := ⟨by show 3 ≤ sizeLine; decide, [u1, u2, u3], (.cons w1 (.cons w2 (.cons w3 .nil))), ⟨_, T2, rfl, _, rfl⟩⟩
    have old : ∀ c o, c ∉ [z, TI, TO, i1, i2, i3] → s.heap.get? c = some o → h2.get? c = some o := fun c o m q => (sb.2 c (fun r => m (by simp [r]))).trans (k1 c o (fun r => m (by simp at r ⊢; rcases r with r | r | r | r | r <;> simp [r])) q)
    have I1 := I.turnedNew (t' := s.toks) (ch := [z, TI, TO, i1, i2, i3]) old hf (Nat.le_refl _) new
    refine ⟨.ref s.heap.objs.size, _, I1, rfl, ⟨_, x1, x2, x3, rfl, I.hok.fresh (Nat.le_refl _), rfl, fun l hl => by rw [I.list_inj hl q1]; exact e1, fun l hl => by rw [I.list_inj hl q2]; exact e2, fun l hl => by rw [I.list_inj hl q3]; exact e3⟩, ⟨z2, ?_, ⟨u1, u2, u3, (sb.2 _ nTO).trans O1⟩, j1.at fun o q => (sb.2 _ nz1).trans q, j2.at fun o q => (sb.2 _ nz2).trans q, j3.at fun o q => (sb.2 _ nz3).trans q⟩, fun c hcm => ?_⟩
    · exact (sb.2 _ nTI).trans (k1 _ _ (by simp [nTI, nTIO, nTI1, nTI2, nTI3]) hI)
    · have lt : c < s.heap.objs.size := by
        have hcm : c = z ∨ c = TI ∨ c = TO ∨ c = i1 ∨ c = i2 ∨ c = i3 := by simpa using hcm
        rcases hcm with rfl | rfl | rfl | rfl | rfl | rfl
        · exact zl
        · exact Heap.lt_size hI
        · exact Heap.lt_size hO
        · obtain ⟨_, q, _⟩ := h1
          exact Heap.lt_size q
        · obtain ⟨_, q, _⟩ := h2
          exact Heap.lt_size q
        · obtain ⟨_, q, _⟩ := h3
          exact Heap.lt_size q
      rw [upd_ne (Nat.ne_of_lt lt)]
      exact (hf c hcm).1
  · intro X hP hw hK hc i pins s σ H E I hf st hg
    subst hP hw hK
    obtain ⟨hz, hI, ⟨a1, a2, a3, hO⟩, h1, h2, h3⟩ := st
    obtain ⟨ys1, ys2, ys3, q1, q2, q3, le⟩ := hg
    obtain ⟨t1, r1, p1, _⟩ := I.list q1
    obtain ⟨t2, r2, p2, _⟩ := I.list q2
    obtain ⟨t3, r3, p3, _⟩ := I.list q3
    have ln := r1.length
    exact stop3 (I.ok.hd hc) D d1 d2 d3 hz hI hO h1 p1.isList h2 p2.isList h3 p3.isList (by simp; omega) fun h' hk => ⟨rfl, I.turnedL (t' := s.toks) (ch := [z, TI, TO, i1, i2, i3]) (fun c o m q => hk c o (fun r => m (by simp at r ⊢; rcases r with r | r | r | r | r <;> simp [r])) q) hf⟩
def iZip3 (K : PySem.W.Frag) (ta : TA) : TI := fun σ H R => ta σ H fun vs H1 => ∃ (l1 l2 l3 : Addr) (ys1 ys2 ys3 : List V), vs = [.ref l1, .ref l2, .ref l3] ∧ SqL K H1 l1 ys1 ∧ SqL K H1 l2 ys2 ∧ SqL K H1 l3 ys3 ∧ R (It3 K l1 l2 l3) H1
theorem pi_zip3 {X : Cx} {e1 e2 e3 : Expr} {ta : TA} {p pos tpos : Pos} {elts : List Expr} {kk : Nat} (hg : Gl X "zip") (hm : X.mg "zip" = none) (ha : PA X [e1, e2, e3] ta)
    (hs : starEach [e1, e2, e3] X.env = (false, eval e1 X.env) :: starEach [e2, e3] X.env := by rfl) (hpl : (backTo pos (starEach [e2, e3] X.env)).any (·.1) = false := by rfl) :
    PI X (.Tuple elts kk tpos) (.Call (.Name "zip" p) [e1, e2, e3] [] pos) (iZip3 X.K ta) := by
  constructor
  intro pins s σ H R I h
  refine Call_ (ld_blt I hg hm PyProof.Rows.boot_zip (PyProof.Rows.callWith_type1 (thn (ha.run pos pins s σ H _ I h) fun us s1 ⟨vs, H1, I1, r1, q1⟩ => ?_) hs hpl))
  obtain ⟨l1, l2, l3, ys1, ys2, ys3, rfl, q1, q2, q3, q⟩ := q1
  obtain ⟨c1, d1, rfl, b1, r2⟩ := vals_cons r1
  obtain ⟨c2, d2, rfl, b2, r3⟩ := vals_cons r2
  obtain ⟨c3, d3, rfl, b3, r4⟩ := vals_cons r3
  obtain rfl := vals_nil r4
  cases b1
  obtain ⟨t1, w1, p1, _⟩ := I1.list q1
  have m1 : l1 < s1.heap.objs.size := p1.lt
  cases b2
  obtain ⟨t2, w2, p2, _⟩ := I1.list q2
  have m2 : l2 < s1.heap.objs.size := p2.lt
  cases b3
  obtain ⟨t3, w3, p3, _⟩ := I1.list q3
  have m3 : l3 < s1.heap.objs.size := p3.lt
  refine call3 p1.isList p2.isList p3.isList fun h' hz hI hO h1 h2 h3 hk => wpAny_pyIter_zip hz ?_
  have I2 : Inv X pins σ H1 { s1 with heap := h' } := I1.kept (t' := s1.toks) hk
  have big : ∀ c ∈ [s1.heap.objs.size + 5, s1.heap.objs.size + 3, s1.heap.objs.size + 4, s1.heap.objs.size, s1.heap.objs.size + 1, s1.heap.objs.size + 2], s1.heap.objs.size ≤ c := fun c m => by
    simp only [List.mem_cons, List.not_mem_nil, or_false] at m
    omega
  have big2 : ∀ c ∈ [s1.heap.objs.size + 5, s1.heap.objs.size + 4, s1.heap.objs.size, s1.heap.objs.size + 1, s1.heap.objs.size + 2], s1.heap.objs.size ≤ c := fun c m => by
    simp only [List.mem_cons, List.not_mem_nil, or_false] at m
    omega
  refine ⟨s1.heap.objs.size + 5, [s1.heap.objs.size + 5, s1.heap.objs.size + 3, s1.heap.objs.size + 4, s1.heap.objs.size, s1.heap.objs.size + 1, s1.heap.objs.size + 2], _, _, H1, rfl, I2, turn3 (by simp; try omega) (fun q => absurd (big2 _ q) (Nat.not_le_of_lt m1)) (fun q => absurd (big2 _ q) (Nat.not_le_of_lt m2)) (fun q => absurd (big2 _ q) (Nat.not_le_of_lt m3)), ⟨hz, hI, ⟨_, _, _, hO⟩, h1, h2, h3⟩, fun c m => I1.fpOk (big c m) (I1.hok.fresh (big c m)), q⟩
section
variable {prog : Program} {w : World} {A : Around} {E : Value → Shared → Prop} {s : Shared}
theorem item4 {z TI TO i1 i2 i3 i4 l1 l2 l3 l4 : Addr} {k : Nat} {xs1 xs2 xs3 xs4 : Array Value} {a1 a2 a3 a4 : Value} {x1 x2 x3 x4 : Value} {Q : Value → Shared → Prop} (D : [z, TI, TO, i1, i2, i3, i4].Nodup) (d1 : l1 ∉ [z, TO, i1, i2, i3, i4]) (d2 : l2 ∉ [z, TO, i1, i2, i3, i4]) (d3 : l3 ∉ [z, TO, i1, i2, i3, i4]) (d4 : l4 ∉ [z, TO, i1, i2, i3, i4]) (hz : IsZip s.heap z TI TO .none) (hI : IsTupA s.heap TI #[.ref i1, .ref i2, .ref i3, .ref i4]) (hO : IsTupA s.heap TO #[a1, a2, a3, a4]) (h1 : s.heap.IsListIter i1 l1 k) (g1 : s.heap.IsList l1 xs1) (h2 : s.heap.IsListIter i2 l2 k) (g2 : s.heap.IsList l2 xs2) (h3 : s.heap.IsListIter i3 l3 k) (g3 : s.heap.IsList l3 xs3) (h4 : s.heap.IsListIter i4 l4 k) (g4 : s.heap.IsList l4 xs4) (e1 : xs1[k]? = some x1) (e2 : xs2[k]? = some x2) (e3 : xs3[k]? = some x3) (e4 : xs4[k]? = some x4)
    (hQ : ∀ h', IsZip h' z TI TO (rawInt s.heap.objs.size) → IsTupA h' TO #[x1, x2, x3, x4] → h'.IsListIter i1 l1 (k + 1) → h'.IsListIter i2 l2 (k + 1) → h'.IsListIter i3 l3 (k + 1) → h'.IsListIter i4 l4 (k + 1) → IsTupA h' s.heap.objs.size #[x1, x2, x3, x4] → h'.objs.size = s.heap.objs.size + 1 → (∀ c o, c ∉ [z, TO, i1, i2, i3, i4] → s.heap.get? c = some o → h'.get? c = some o) → Q (.ref s.heap.objs.size) { s with heap := h' }) :
    wpAny (model prog w) A (Builtin.«zip.__next__» ⟨[.ref z], []⟩) (fun fin s' => ∃ v, fin = .done (.ret v) ∧ Q v s') E s := by
  have nTz : TO ≠ z := fun q => by simp [q] at D
  have nz1 : i1 ≠ z := fun q => by simp [q] at D
  have nT1 : i1 ≠ TO := fun q => by simp [q] at D
  have n12 : i1 ≠ i2 := fun q => by simp [q] at D
  have n13 : i1 ≠ i3 := fun q => by simp [q] at D
  have n14 : i1 ≠ i4 := fun q => by simp [q] at D
  have lz1 : l1 ≠ z := fun q => d1 (by simp [q])
  have lT1 : l1 ≠ TO := fun q => d1 (by simp [q])
  have ll11 : l1 ≠ i1 := fun q => d1 (by simp [q])
  have ll12 : l1 ≠ i2 := fun q => d1 (by simp [q])
  have ll13 : l1 ≠ i3 := fun q => d1 (by simp [q])
  have ll14 : l1 ≠ i4 := fun q => d1 (by simp [q])
  have nz2 : i2 ≠ z := fun q => by simp [q] at D
  have nT2 : i2 ≠ TO := fun q => by simp [q] at D
  have n23 : i2 ≠ i3 := fun q => by simp [q] at D
  have n24 : i2 ≠ i4 := fun q => by simp [q] at D
  have lz2 : l2 ≠ z := fun q => d2 (by simp [q])
  have lT2 : l2 ≠ TO := fun q => d2 (by simp [q])
  have ll21 : l2 ≠ i1 := fun q => d2 (by simp [q])
  have ll22 : l2 ≠ i2 := fun q => d2 (by simp [q])
  have ll23 : l2 ≠ i3 := fun q => d2 (by simp [q])
  have ll24 : l2 ≠ i4 := fun q => d2 (by simp [q])
  have nz3 : i3 ≠ z := fun q => by simp [q] at D
  have nT3 : i3 ≠ TO := fun q => by simp [q] at D
  have n34 : i3 ≠ i4 := fun q => by simp [q] at D
  have lz3 : l3 ≠ z := fun q => d3 (by simp [q])
  have lT3 : l3 ≠ TO := fun q => d3 (by simp [q])
  have ll31 : l3 ≠ i1 := fun q => d3 (by simp [q])
  have ll32 : l3 ≠ i2 := fun q => d3 (by simp [q])
  have ll33 : l3 ≠ i3 := fun q => d3 (by simp [q])
  have ll34 : l3 ≠ i4 := fun q => d3 (by simp [q])
  have nz4 : i4 ≠ z := fun q => by simp [q] at D
  have nT4 : i4 ≠ TO := fun q => by simp [q] at D
  have lz4 : l4 ≠ z := fun q => d4 (by simp [q])
  have lT4 : l4 ≠ TO := fun q => d4 (by simp [q])
  have ll41 : l4 ≠ i1 := fun q => d4 (by simp [q])
  have ll42 : l4 ≠ i2 := fun q => d4 (by simp [q])
  have ll43 : l4 ≠ i3 := fun q => d4 (by simp [q])
  have ll44 : l4 ≠ i4 := fun q => d4 (by simp [q])
  show wpAny _ _ (field (.ref z) 2 >>= _) _ _ s
  refine wpAny_bind (wpAny_field hz rfl (x := .bool false) rfl ?_)
  show wpAny _ _ (field (.ref z) 3 >>= _) _ _ s
  refine wpAny_bind (wpAny_field hz rfl (x := .ref TI) rfl (wpAny_bind (wpAny_seqItems hI rfl ?_)))
  show wpAny _ _ (Builtin.SmallTypes.ownedTupleIsFree (.ref z) >>= _) _ _ s
  unfold Builtin.SmallTypes.ownedTupleIsFree
  refine wpAny_bind (wpAny_bind (wpAny_field hz rfl (x := .none) rfl (wpAny_pure ?_)))
  simp only [if_true]
  refine wpAny_bind (wpAny_rule (wpAny_bind (wpAny_field hz rfl (x := .ref TO) rfl (wpAny_bind (wpAny_setField_rec hz (by simp) fun b0 z0 c0 => ?_)))))
  have z0 : IsZip b0 z TI TO .ellipsis := z0
  have K0 : ∀ c o, c ∉ [z, TO, i1, i2, i3, i4] → s.heap.get? c = some o → b0.get? c = some o := fun c o m e => (c0.2 c (fun q => m (by simp [q]))).trans e
  have S0 := c0.1
  have O0 : IsTupA b0 TO #[a1, a2, a3, a4] := (c0.2 TO nTz).trans hO
  have I0_1 : b0.IsListIter i1 l1 k := h1.at fun o e => (c0.2 _ nz1).trans e
  have L0_1 : b0.IsList l1 xs1 := g1.at fun o e => (c0.2 _ lz1).trans e
  have I0_2 : b0.IsListIter i2 l2 k := h2.at fun o e => (c0.2 _ nz2).trans e
  have L0_2 : b0.IsList l2 xs2 := g2.at fun o e => (c0.2 _ lz2).trans e
  have I0_3 : b0.IsListIter i3 l3 k := h3.at fun o e => (c0.2 _ nz3).trans e
  have L0_3 : b0.IsList l3 xs3 := g3.at fun o e => (c0.2 _ lz3).trans e
  have I0_4 : b0.IsListIter i4 l4 k := h4.at fun o e => (c0.2 _ nz4).trans e
  have L0_4 : b0.IsList l4 xs4 := g4.at fun o e => (c0.2 _ lz4).trans e
  refine wpAny_bind ?_
  simp only [List.zipIdx_cons, List.zipIdx_nil, List.forIn_cons, List.forIn_nil]
  refine wpAny_bind (wpAny_bind (wpAny_onRaise ?_))
  show wpAny _ _ (Builtin.SmallTypes.nextOf (.ref i1) >>= _) _ _ _
  refine wpAny_bind (wpAny_nextOf_list_item (s := { s with heap := b0 }) I0_1 L0_1 e1 fun m1 J1 c1 => wpAny_pure ?_)
  have P1 : IsTupA m1 TO #[a1, a2, a3, a4] := (c1.2 TO nT1.symm).trans O0
  refine wpAny_bind (wpAny_seqItems (s := { s with heap := m1 }) P1 rfl (wpAny_bind (set_tup (s := { s with heap := m1 }) P1 (by show 4 ≤ sizeLine; decide) fun b1 O1 u1 S1' => wpAny_bind (wpAny_letGo (wpAny_pure ?_)))))
  have O1 : IsTupA b1 TO #[x1, a2, a3, a4] := O1
  have z1 : IsZip b1 z TI TO .ellipsis := u1 _ _ nTz.symm ((c1.2 z nz1.symm).trans z0)
  have K1 : ∀ c o, c ∉ [z, TO, i1, i2, i3, i4] → s.heap.get? c = some o → b1.get? c = some o := fun c o m e => u1 c o (fun q => m (by simp [q])) ((c1.2 c (fun q => m (by simp [q]))).trans (K0 c o m e))
  have S1 : b1.objs.size = s.heap.objs.size := S1'.trans (c1.1.trans S0)
  have I1_1 : b1.IsListIter i1 l1 (k + 1) := J1.at fun o e => u1 _ o nT1 e
  have L1_1 : b1.IsList l1 xs1 := L0_1.at fun o e => u1 _ o lT1 ((c1.2 _ ll11).trans e)
  have I1_2 : b1.IsListIter i2 l2 k := I0_2.at fun o e => u1 _ o nT2 ((c1.2 _ n12.symm).trans e)
  have L1_2 : b1.IsList l2 xs2 := L0_2.at fun o e => u1 _ o lT2 ((c1.2 _ ll21).trans e)
  have I1_3 : b1.IsListIter i3 l3 k := I0_3.at fun o e => u1 _ o nT3 ((c1.2 _ n13.symm).trans e)
  have L1_3 : b1.IsList l3 xs3 := L0_3.at fun o e => u1 _ o lT3 ((c1.2 _ ll31).trans e)
  have I1_4 : b1.IsListIter i4 l4 k := I0_4.at fun o e => u1 _ o nT4 ((c1.2 _ n14.symm).trans e)
  have L1_4 : b1.IsList l4 xs4 := L0_4.at fun o e => u1 _ o lT4 ((c1.2 _ ll41).trans e)
  refine wpAny_bind (wpAny_bind (wpAny_onRaise ?_))
  show wpAny _ _ (Builtin.SmallTypes.nextOf (.ref i2) >>= _) _ _ _
  refine wpAny_bind (wpAny_nextOf_list_item (s := { s with heap := b1 }) I1_2 L1_2 e2 fun m2 J2 c2 => wpAny_pure ?_)
  have P2 : IsTupA m2 TO #[x1, a2, a3, a4] := (c2.2 TO nT2.symm).trans O1
  refine wpAny_bind (wpAny_seqItems (s := { s with heap := m2 }) P2 rfl (wpAny_bind (set_tup (s := { s with heap := m2 }) P2 (by show 4 ≤ sizeLine; decide) fun b2 O2 u2 S2' => wpAny_bind (wpAny_letGo (wpAny_pure ?_)))))
  have O2 : IsTupA b2 TO #[x1, x2, a3, a4] := O2
  have z2 : IsZip b2 z TI TO .ellipsis := u2 _ _ nTz.symm ((c2.2 z nz2.symm).trans z1)
  have K2 : ∀ c o, c ∉ [z, TO, i1, i2, i3, i4] → s.heap.get? c = some o → b2.get? c = some o := fun c o m e => u2 c o (fun q => m (by simp [q])) ((c2.2 c (fun q => m (by simp [q]))).trans (K1 c o m e))
  have S2 : b2.objs.size = s.heap.objs.size := S2'.trans (c2.1.trans S1)
  have I2_1 : b2.IsListIter i1 l1 (k + 1) := I1_1.at fun o e => u2 _ o nT1 ((c2.2 _ n12).trans e)
  have L2_1 : b2.IsList l1 xs1 := L1_1.at fun o e => u2 _ o lT1 ((c2.2 _ ll12).trans e)
  have I2_2 : b2.IsListIter i2 l2 (k + 1) := J2.at fun o e => u2 _ o nT2 e
  have L2_2 : b2.IsList l2 xs2 := L1_2.at fun o e => u2 _ o lT2 ((c2.2 _ ll22).trans e)
  have I2_3 : b2.IsListIter i3 l3 k := I1_3.at fun o e => u2 _ o nT3 ((c2.2 _ n23.symm).trans e)
  have L2_3 : b2.IsList l3 xs3 := L1_3.at fun o e => u2 _ o lT3 ((c2.2 _ ll32).trans e)
  have I2_4 : b2.IsListIter i4 l4 k := I1_4.at fun o e => u2 _ o nT4 ((c2.2 _ n24.symm).trans e)
  have L2_4 : b2.IsList l4 xs4 := L1_4.at fun o e => u2 _ o lT4 ((c2.2 _ ll42).trans e)
  refine wpAny_bind (wpAny_bind (wpAny_onRaise ?_))
  show wpAny _ _ (Builtin.SmallTypes.nextOf (.ref i3) >>= _) _ _ _
  refine wpAny_bind (wpAny_nextOf_list_item (s := { s with heap := b2 }) I2_3 L2_3 e3 fun m3 J3 c3 => wpAny_pure ?_)
  have P3 : IsTupA m3 TO #[x1, x2, a3, a4] := (c3.2 TO nT3.symm).trans O2
  refine wpAny_bind (wpAny_seqItems (s := { s with heap := m3 }) P3 rfl (wpAny_bind (set_tup (s := { s with heap := m3 }) P3 (by show 4 ≤ sizeLine; decide) fun b3 O3 u3 S3' => wpAny_bind (wpAny_letGo (wpAny_pure ?_)))))
  have O3 : IsTupA b3 TO #[x1, x2, x3, a4] := O3
  have z3 : IsZip b3 z TI TO .ellipsis := u3 _ _ nTz.symm ((c3.2 z nz3.symm).trans z2)
  have K3 : ∀ c o, c ∉ [z, TO, i1, i2, i3, i4] → s.heap.get? c = some o → b3.get? c = some o := fun c o m e => u3 c o (fun q => m (by simp [q])) ((c3.2 c (fun q => m (by simp [q]))).trans (K2 c o m e))
  have S3 : b3.objs.size = s.heap.objs.size := S3'.trans (c3.1.trans S2)
  have I3_1 : b3.IsListIter i1 l1 (k + 1) := I2_1.at fun o e => u3 _ o nT1 ((c3.2 _ n13).trans e)
  have L3_1 : b3.IsList l1 xs1 := L2_1.at fun o e => u3 _ o lT1 ((c3.2 _ ll13).trans e)
  have I3_2 : b3.IsListIter i2 l2 (k + 1) := I2_2.at fun o e => u3 _ o nT2 ((c3.2 _ n23).trans e)
  have L3_2 : b3.IsList l2 xs2 := L2_2.at fun o e => u3 _ o lT2 ((c3.2 _ ll23).trans e)
  have I3_3 : b3.IsListIter i3 l3 (k + 1) := J3.at fun o e => u3 _ o nT3 e
  have L3_3 : b3.IsList l3 xs3 := L2_3.at fun o e => u3 _ o lT3 ((c3.2 _ ll33).trans e)
  have I3_4 : b3.IsListIter i4 l4 k := I2_4.at fun o e => u3 _ o nT4 ((c3.2 _ n34.symm).trans e)
  have L3_4 : b3.IsList l4 xs4 := L2_4.at fun o e => u3 _ o lT4 ((c3.2 _ ll43).trans e)
  refine wpAny_bind (wpAny_bind (wpAny_onRaise ?_))
  show wpAny _ _ (Builtin.SmallTypes.nextOf (.ref i4) >>= _) _ _ _
  refine wpAny_bind (wpAny_nextOf_list_item (s := { s with heap := b3 }) I3_4 L3_4 e4 fun m4 J4 c4 => wpAny_pure ?_)
  have P4 : IsTupA m4 TO #[x1, x2, x3, a4] := (c4.2 TO nT4.symm).trans O3
  refine wpAny_bind (wpAny_seqItems (s := { s with heap := m4 }) P4 rfl (wpAny_bind (set_tup (s := { s with heap := m4 }) P4 (by show 4 ≤ sizeLine; decide) fun b4 O4 u4 S4' => wpAny_bind (wpAny_letGo (wpAny_pure (wpAny_pure ?_))))))
  have O4 : IsTupA b4 TO #[x1, x2, x3, x4] := O4
  have z4 : IsZip b4 z TI TO .ellipsis := u4 _ _ nTz.symm ((c4.2 z nz4.symm).trans z3)
  have K4 : ∀ c o, c ∉ [z, TO, i1, i2, i3, i4] → s.heap.get? c = some o → b4.get? c = some o := fun c o m e => u4 c o (fun q => m (by simp [q])) ((c4.2 c (fun q => m (by simp [q]))).trans (K3 c o m e))
  have S4 : b4.objs.size = s.heap.objs.size := S4'.trans (c4.1.trans S3)
  have I4_1 : b4.IsListIter i1 l1 (k + 1) := I3_1.at fun o e => u4 _ o nT1 ((c4.2 _ n14).trans e)
  have L4_1 : b4.IsList l1 xs1 := L3_1.at fun o e => u4 _ o lT1 ((c4.2 _ ll14).trans e)
  have I4_2 : b4.IsListIter i2 l2 (k + 1) := I3_2.at fun o e => u4 _ o nT2 ((c4.2 _ n24).trans e)
  have L4_2 : b4.IsList l2 xs2 := L3_2.at fun o e => u4 _ o lT2 ((c4.2 _ ll24).trans e)
  have I4_3 : b4.IsListIter i3 l3 (k + 1) := I3_3.at fun o e => u4 _ o nT3 ((c4.2 _ n34).trans e)
  have L4_3 : b4.IsList l3 xs3 := L3_3.at fun o e => u4 _ o lT3 ((c4.2 _ ll34).trans e)
  have I4_4 : b4.IsListIter i4 l4 (k + 1) := J4.at fun o e => u4 _ o nT4 e
  have L4_4 : b4.IsList l4 xs4 := L3_4.at fun o e => u4 _ o lT4 ((c4.2 _ ll44).trans e)
  refine wpAny_bind (wpAny_seqItems (s := { s with heap := b4 }) O4 rfl (wpAny_bind (wpAny_newTuple ?_)))
  show wpAny _ _ (Builtin.SmallTypes.ownedTupleHandOut (.ref z) (.ref b4.objs.size) >>= _) _ _ _
  unfold Builtin.SmallTypes.ownedTupleHandOut
  have zlt : z < b4.objs.size := Heap.lt_size z4
  have zP : IsZip (b4.push { cls := .type "tuple", data := .seq #[x1, x2, x3, x4] }) z TI TO .ellipsis := Heap.get?_push_of_some _ z4
  refine wpAny_bind (wpAny_bind (wpAny_setField_rec (s := { s with heap := b4.push { cls := .type "tuple", data := .seq #[x1, x2, x3, x4] } }) zP (by simp) fun v1 y1 t1 => ?_))
  have y1 : IsZip v1 z TI TO (rawInt b4.objs.size) := y1
  refine wpAny_setField_rec (s := { s with heap := v1 }) y1 (by simp) fun v2 y2 t2 => ?_
  have y2 : IsZip v2 z TI TO (rawInt b4.objs.size) := y2
  have go : ∀ c o, c ≠ z → b4.get? c = some o → v2.get? c = some o := fun c o m e => (t2.2 c m).trans ((t1.2 c m).trans (Heap.get?_push_of_some _ e))
  have nw : IsTupA v2 b4.objs.size #[x1, x2, x3, x4] := (t2.2 _ (Nat.ne_of_gt zlt)).trans ((t1.2 _ (Nat.ne_of_gt zlt)).trans (Heap.get?_push_size _ rfl))
  have sz : v2.objs.size = b4.objs.size + 1 := t2.1.trans (t1.1.trans (Heap.size_push ..))
  rw [S4] at y2 nw sz
  refine wpAny_pure ⟨_, rfl, ?_⟩
  show Q (.ref b4.objs.size) _
  rw [S4]
  exact hQ v2 y2 (go _ _ nTz O4) (I4_1.at fun o e => go _ o nz1 e) (I4_2.at fun o e => go _ o nz2 e) (I4_3.at fun o e => go _ o nz3 e) (I4_4.at fun o e => go _ o nz4 e) nw sz fun c o m e => go c o (fun q => m (by simp [q])) (K4 c o m e)
theorem end4 {z TI TO i1 i2 i3 i4 l1 l2 l3 l4 : Addr} {k : Nat} {xs1 xs2 xs3 xs4 : Array Value} {a1 a2 a3 a4 : Value} {Q : Fin → Shared → Prop} (hh : A.handled = none) (D : [z, TI, TO, i1, i2, i3, i4].Nodup) (d1 : l1 ∉ [z, TO, i1, i2, i3, i4]) (d2 : l2 ∉ [z, TO, i1, i2, i3, i4]) (d3 : l3 ∉ [z, TO, i1, i2, i3, i4]) (d4 : l4 ∉ [z, TO, i1, i2, i3, i4]) (hz : IsZip s.heap z TI TO .none) (hI : IsTupA s.heap TI #[.ref i1, .ref i2, .ref i3, .ref i4]) (hO : IsTupA s.heap TO #[a1, a2, a3, a4]) (h1 : s.heap.IsListIter i1 l1 k) (g1 : s.heap.IsList l1 xs1) (h2 : s.heap.IsListIter i2 l2 k) (g2 : s.heap.IsList l2 xs2) (h3 : s.heap.IsListIter i3 l3 k) (g3 : s.heap.IsList l3 xs3) (h4 : s.heap.IsListIter i4 l4 k) (g4 : s.heap.IsList l4 xs4) (e1 : xs1[k]? = none)
    (hE : ∀ h' e, (∀ c o, c ∉ [z, TO, i1, i2, i3, i4] → s.heap.get? c = some o → h'.get? c = some o) → (∃ o, h'.get? e = some o ∧ o.cls = .type "StopIteration") → E (.ref e) { s with heap := h' }) :
    wpAny (model prog w) A (Builtin.«zip.__next__» ⟨[.ref z], []⟩) Q E s := by
  have nz1 : i1 ≠ z := fun q => by simp [q] at D
  have lz1 : l1 ≠ z := fun q => d1 (by simp [q])
  show wpAny _ _ (field (.ref z) 2 >>= _) _ _ s
  refine wpAny_bind (wpAny_field hz rfl (x := .bool false) rfl ?_)
  show wpAny _ _ (field (.ref z) 3 >>= _) _ _ s
  refine wpAny_bind (wpAny_field hz rfl (x := .ref TI) rfl (wpAny_bind (wpAny_seqItems hI rfl ?_)))
  show wpAny _ _ (Builtin.SmallTypes.ownedTupleIsFree (.ref z) >>= _) _ _ s
  unfold Builtin.SmallTypes.ownedTupleIsFree
  refine wpAny_bind (wpAny_bind (wpAny_field hz rfl (x := .none) rfl (wpAny_pure ?_)))
  simp only [if_true]
  refine wpAny_bind (wpAny_rule (wpAny_bind (wpAny_field hz rfl (x := .ref TO) rfl (wpAny_bind (wpAny_setField_rec hz (by simp) fun b0 z0 c0 => ?_)))))
  have z0 : IsZip b0 z TI TO .ellipsis := z0
  refine wpAny_bind ?_
  simp only [List.zipIdx_cons, List.zipIdx_nil, List.forIn_cons, List.forIn_nil]
  refine wpAny_bind (wpAny_bind (wpAny_onRaise ?_))
  show wpAny _ _ (Builtin.SmallTypes.nextOf (.ref i1) >>= _) _ _ _
  refine wpAny_bind (wpAny_nextOf_list_end (s := { s with heap := b0 }) hh (h1.at fun o e => (c0.2 _ nz1).trans e) (g1.at fun o e => (c0.2 _ lz1).trans e) e1 fun b2 e c2 he => ?_)
  obtain ⟨oe, he1, he2⟩ := he
  have zz : IsZip b2 z TI TO .ellipsis := c2 _ _ nz1.symm z0
  have ne : e ≠ z := fun q => by rw [q, zz] at he1; cases he1; simp at he2
  refine wpAny_setField_rec (s := { s with heap := b2 }) zz (by simp) fun b3 _ c3 => hE b3 e (fun c o m q => (c3.2 c (fun r => m (by simp [r]))).trans (c2 _ _ (fun r => m (by simp [r])) ((c0.2 c (fun r => m (by simp [r]))).trans q))) ⟨oe, (c3.2 _ ne).trans he1, he2⟩
theorem next4 {z TI TO i1 i2 i3 i4 l1 l2 l3 l4 : Addr} {k : Nat} {xs1 xs2 xs3 xs4 : Array Value} {a1 a2 a3 a4 : Value} {x1 x2 x3 x4 : Value} {Q : Option Value → Shared → Prop} (D : [z, TI, TO, i1, i2, i3, i4].Nodup) (d1 : l1 ∉ [z, TO, i1, i2, i3, i4]) (d2 : l2 ∉ [z, TO, i1, i2, i3, i4]) (d3 : l3 ∉ [z, TO, i1, i2, i3, i4]) (d4 : l4 ∉ [z, TO, i1, i2, i3, i4]) (hz : IsZip s.heap z TI TO .none) (hI : IsTupA s.heap TI #[.ref i1, .ref i2, .ref i3, .ref i4]) (hO : IsTupA s.heap TO #[a1, a2, a3, a4]) (h1 : s.heap.IsListIter i1 l1 k) (g1 : s.heap.IsList l1 xs1) (h2 : s.heap.IsListIter i2 l2 k) (g2 : s.heap.IsList l2 xs2) (h3 : s.heap.IsListIter i3 l3 k) (g3 : s.heap.IsList l3 xs3) (h4 : s.heap.IsListIter i4 l4 k) (g4 : s.heap.IsList l4 xs4) (e1 : xs1[k]? = some x1) (e2 : xs2[k]? = some x2) (e3 : xs3[k]? = some x3) (e4 : xs4[k]? = some x4)
    (hQ : ∀ h', IsZip h' z TI TO (rawInt s.heap.objs.size) → IsTupA h' TO #[x1, x2, x3, x4] → h'.IsListIter i1 l1 (k + 1) → h'.IsListIter i2 l2 (k + 1) → h'.IsListIter i3 l3 (k + 1) → h'.IsListIter i4 l4 (k + 1) → IsTupA h' s.heap.objs.size #[x1, x2, x3, x4] → h'.objs.size = s.heap.objs.size + 1 → (∀ c o, c ∉ [z, TO, i1, i2, i3, i4] → s.heap.get? c = some o → h'.get? c = some o) → Q (some (.ref s.heap.objs.size)) { s with heap := h' }) :
    wpAny (model prog w) A (pyNext (.ref z)) Q E s := by
  have ty : s.TypeIs (.ref z) "zip" := ⟨_, hz, rfl⟩
  unfold pyNext
  exact wpAny_bind (wpAny_attempt (wpAny_callSpecial?_slot (name := Str.ofString "__next__") ty F.slot_zip_next (wpAny_call_entry F.slot_zip_next ty F.entry_zip_next (item4 D d1 d2 d3 d4 hz hI hO h1 g1 h2 g2 h3 g3 h4 g4 e1 e2 e3 e4 fun h' b1 b2 p1 p2 p3 p4 b3 b4 b5 => wpAny_pure (hQ h' b1 b2 p1 p2 p3 p4 b3 b4 b5)) (F.args_zip_next_1 _))))
theorem stop4 {z TI TO i1 i2 i3 i4 l1 l2 l3 l4 : Addr} {k : Nat} {xs1 xs2 xs3 xs4 : Array Value} {a1 a2 a3 a4 : Value} {Q : Option Value → Shared → Prop} (hh : A.handled = none) (D : [z, TI, TO, i1, i2, i3, i4].Nodup) (d1 : l1 ∉ [z, TO, i1, i2, i3, i4]) (d2 : l2 ∉ [z, TO, i1, i2, i3, i4]) (d3 : l3 ∉ [z, TO, i1, i2, i3, i4]) (d4 : l4 ∉ [z, TO, i1, i2, i3, i4]) (hz : IsZip s.heap z TI TO .none) (hI : IsTupA s.heap TI #[.ref i1, .ref i2, .ref i3, .ref i4]) (hO : IsTupA s.heap TO #[a1, a2, a3, a4]) (h1 : s.heap.IsListIter i1 l1 k) (g1 : s.heap.IsList l1 xs1) (h2 : s.heap.IsListIter i2 l2 k) (g2 : s.heap.IsList l2 xs2) (h3 : s.heap.IsListIter i3 l3 k) (g3 : s.heap.IsList l3 xs3) (h4 : s.heap.IsListIter i4 l4 k) (g4 : s.heap.IsList l4 xs4) (e1 : xs1[k]? = none) (hQ : ∀ h', (∀ c o, c ∉ [z, TO, i1, i2, i3, i4] → s.heap.get? c = some o → h'.get? c = some o) → Q none { s with heap := h' }) : wpAny (model prog w) A (pyNext (.ref z)) Q E s := by
  have ty : s.TypeIs (.ref z) "zip" := ⟨_, hz, rfl⟩
  unfold pyNext
  refine wpAny_bind (wpAny_attempt (wpAny_callSpecial?_slot (name := Str.ofString "__next__") ty F.slot_zip_next (wpAny_call_entry F.slot_zip_next ty F.entry_zip_next (end4 hh D d1 d2 d3 d4 hz hI hO h1 g1 h2 g2 h3 g3 h4 g4 e1 fun h' e hk he => ?_) (F.args_zip_next_1 _))))
  obtain ⟨o, q1, q2⟩ := he
  exact wpAny_bind (wpAny_isInstance (T := "StopIteration") (b := true) ⟨o, q1, q2⟩ isSubtype_stop (wpAny_pure (hQ _ hk)))
theorem made4 {l1 l2 l3 l4 : Addr} {xs1 xs2 xs3 xs4 : Array Value} :
    Meets (Builtin.«zip.__new__» ⟨[.type "zip", .ref l1, .ref l2, .ref l3, .ref l4], []⟩) (fun _ R s => s.heap.IsList l1 xs1 ∧ s.heap.IsList l2 xs2 ∧ s.heap.IsList l3 xs3 ∧ s.heap.IsList l4 xs4 ∧ ∀ h', IsZip h' (s.heap.objs.size + 6) (s.heap.objs.size + 4) (s.heap.objs.size + 5) .none → IsTupA h' (s.heap.objs.size + 4) #[.ref s.heap.objs.size, .ref (s.heap.objs.size + 1), .ref (s.heap.objs.size + 2), .ref (s.heap.objs.size + 3)] → IsTupA h' (s.heap.objs.size + 5) #[.none, .none, .none, .none] → h'.IsListIter s.heap.objs.size l1 0 → h'.IsListIter (s.heap.objs.size + 1) l2 0 → h'.IsListIter (s.heap.objs.size + 2) l3 0 → h'.IsListIter (s.heap.objs.size + 3) l4 0 → (∀ c o, s.heap.get? c = some o → h'.get? c = some o) → R (.ok (.ret (.ref (s.heap.objs.size + 6)))) { s with heap := h' }) :=
  .of_wp fun prog w A R s hyp => by
    obtain ⟨hp, g, d, tk, os⟩ := s
    obtain ⟨q1, q2, q3, q4, fin⟩ := hyp
    have hsub := sub_zip
    have r1 : Heap.IsList (Shared.heap ⟨hp, g, d, tk, os⟩) l1 xs1 := q1
    have r2 : Heap.IsList (Shared.heap ⟨hp.push { cls := .type "list_iterator", data := .fields #[.ref l1, .int 0 0] }, g, d, tk, os⟩) l2 xs2 := Heap.IsList.push (q2) _
    have r3 : Heap.IsList (Shared.heap ⟨(hp.push { cls := .type "list_iterator", data := .fields #[.ref l1, .int 0 0] }).push { cls := .type "list_iterator", data := .fields #[.ref l2, .int 0 0] }, g, d, tk, os⟩) l3 xs3 := Heap.IsList.push (Heap.IsList.push (q3) _) _
    have r4 : Heap.IsList (Shared.heap ⟨((hp.push { cls := .type "list_iterator", data := .fields #[.ref l1, .int 0 0] }).push { cls := .type "list_iterator", data := .fields #[.ref l2, .int 0 0] }).push { cls := .type "list_iterator", data := .fields #[.ref l3, .int 0 0] }, g, d, tk, os⟩) l4 xs4 := Heap.IsList.push (Heap.IsList.push (Heap.IsList.push (q4) _) _) _
    wp_walk using wpAny_pyIter_list r1, wpAny_pyIter_list r2, wpAny_pyIter_list r3, wpAny_pyIter_list r4
    refine ⟨_, rfl, ?_⟩
    simp only [Heap.size_push]
    exact fin _ (at_top (by simp only [Heap.size_push]) (Heap.get?_push_size _ rfl)) (Heap.get?_push_of_some _ (Heap.get?_push_of_some _ (at_top (by simp only [Heap.size_push]) (Heap.get?_push_size _ rfl)))) (Heap.get?_push_of_some _ (at_top (by simp only [Heap.size_push]) (Heap.get?_push_size _ rfl))) ⟨_, (Heap.get?_push_of_some _ (Heap.get?_push_of_some _ (Heap.get?_push_of_some _ (Heap.get?_push_of_some _ (Heap.get?_push_of_some _ (Heap.get?_push_of_some _ (at_top (by simp only [Heap.size_push]) (Heap.get?_push_size _ rfl)))))))), rfl, rfl⟩ ⟨_, (Heap.get?_push_of_some _ (Heap.get?_push_of_some _ (Heap.get?_push_of_some _ (Heap.get?_push_of_some _ (Heap.get?_push_of_some _ (at_top (by simp only [Heap.size_push]) (Heap.get?_push_size _ rfl))))))), rfl, rfl⟩ ⟨_, (Heap.get?_push_of_some _ (Heap.get?_push_of_some _ (Heap.get?_push_of_some _ (Heap.get?_push_of_some _ (at_top (by simp only [Heap.size_push]) (Heap.get?_push_size _ rfl)))))), rfl, rfl⟩ ⟨_, (Heap.get?_push_of_some _ (Heap.get?_push_of_some _ (Heap.get?_push_of_some _ (at_top (by simp only [Heap.size_push]) (Heap.get?_push_size _ rfl))))), rfl, rfl⟩ fun c o e => (Heap.get?_push_of_some _ (Heap.get?_push_of_some _ (Heap.get?_push_of_some _ (Heap.get?_push_of_some _ (Heap.get?_push_of_some _ (Heap.get?_push_of_some _ (Heap.get?_push_of_some _ e)))))))
theorem call4 {l1 l2 l3 l4 : Addr} {xs1 xs2 xs3 xs4 : Array Value} {Q : Value → Shared → Prop} (g1 : s.heap.IsList l1 xs1) (g2 : s.heap.IsList l2 xs2) (g3 : s.heap.IsList l3 xs3) (g4 : s.heap.IsList l4 xs4)
    (h : ∀ h', IsZip h' (s.heap.objs.size + 6) (s.heap.objs.size + 4) (s.heap.objs.size + 5) .none → IsTupA h' (s.heap.objs.size + 4) #[.ref s.heap.objs.size, .ref (s.heap.objs.size + 1), .ref (s.heap.objs.size + 2), .ref (s.heap.objs.size + 3)] → IsTupA h' (s.heap.objs.size + 5) #[.none, .none, .none, .none] → h'.IsListIter s.heap.objs.size l1 0 → h'.IsListIter (s.heap.objs.size + 1) l2 0 → h'.IsListIter (s.heap.objs.size + 2) l3 0 → h'.IsListIter (s.heap.objs.size + 3) l4 0 → (∀ c o, s.heap.get? c = some o → h'.get? c = some o) → Q (.ref (s.heap.objs.size + 6)) { s with heap := h' }) :
    wpAny (model prog w) A (call (.type "zip") [.ref l1, .ref l2, .ref l3, .ref l4]) Q E s :=
  callType_new F.called_zip (by decide) (by kernel_rfl) (by kernel_rfl) (fun obj => by
    unfold argsOk
    rw [signature?_of (id := "object.__init__") (n := ['_', '_', 't', 'i', 'n', 'i', '_', '_']) (o := ['t', 'c', 'e', 'j', 'b', 'o']) (by kernel_rfl) F.owner_object]
    kernel_rfl) F.entry_zip_new (made4 (xs1 := xs1) (xs2 := xs2) (xs3 := xs3) (xs4 := xs4)) ⟨g1, g2, g3, g4, fun h' b1 b2 b3 p1 p2 p3 p4 b5 => ⟨⟨_, b1, rfl⟩, h h' b1 b2 b3 p1 p2 p3 p4 b5⟩⟩
end
/-- the lists as they stand at each turn, the items in new tuples -/
def It4 (K : PySem.W.Frag) (l1 l2 l3 l4 : Addr) : It :=
  ⟨fun i H => ∃ (ys1 ys2 ys3 ys4 : List V) (x1 x2 x3 x4 : V), SqL K H l1 ys1 ∧ SqL K H l2 ys2 ∧ SqL K H l3 ys3 ∧ SqL K H l4 ys4 ∧ ys1[i]? = some x1 ∧ ys2[i]? = some x2 ∧ ys3[i]? = some x3 ∧ ys4[i]? = some x4,
    fun i H v H' => ∃ (T : Addr) (x1 x2 x3 x4 : V), v = .ref T ∧ H T = none ∧ H' = upd H T (.tup [x1, x2, x3, x4]) ∧ (∀ ys, SqL K H l1 ys → ys[i]? = some x1) ∧ (∀ ys, SqL K H l2 ys → ys[i]? = some x2) ∧ (∀ ys, SqL K H l3 ys → ys[i]? = some x3) ∧ (∀ ys, SqL K H l4 ys → ys[i]? = some x4),
    fun i H => ∃ ys1 ys2 ys3 ys4 : List V, SqL K H l1 ys1 ∧ SqL K H l2 ys2 ∧ SqL K H l3 ys3 ∧ SqL K H l4 ys4 ∧ ys1.length ≤ i⟩
theorem turn4 {P : Program} {w : World} {K : PySem.W.Frag} {elts : List Expr} {kk : Nat} {tpos : Pos} {z TI TO i1 i2 i3 i4 l1 l2 l3 l4 : Addr} (D : [z, TI, TO, i1, i2, i3, i4].Nodup) (d1 : l1 ∉ [z, TO, i1, i2, i3, i4]) (d2 : l2 ∉ [z, TO, i1, i2, i3, i4]) (d3 : l3 ∉ [z, TO, i1, i2, i3, i4]) (d4 : l4 ∉ [z, TO, i1, i2, i3, i4]) :
    Turn P w K (.Tuple elts kk tpos) (It4 K l1 l2 l3 l4) [z, TI, TO, i1, i2, i3, i4] z (fun i h => IsZip h z TI TO .none ∧ IsTupA h TI #[.ref i1, .ref i2, .ref i3, .ref i4] ∧ (∃ a1 a2 a3 a4, IsTupA h TO #[a1, a2, a3, a4]) ∧ h.IsListIter i1 l1 i ∧ h.IsListIter i2 l2 i ∧ h.IsListIter i3 l3 i ∧ h.IsListIter i4 l4 i) := by
  have nTI : TI ≠ z := fun q => by simp [q] at D
  have nTIO : TI ≠ TO := fun q => by simp [q] at D
  have nTO : TO ≠ z := fun q => by simp [q] at D
  have nTI1 : TI ≠ i1 := fun q => by simp [q] at D
  have nz1 : i1 ≠ z := fun q => by simp [q] at D
  have nTI2 : TI ≠ i2 := fun q => by simp [q] at D
  have nz2 : i2 ≠ z := fun q => by simp [q] at D
  have nTI3 : TI ≠ i3 := fun q => by simp [q] at D
  have nz3 : i3 ≠ z := fun q => by simp [q] at D
  have nTI4 : TI ≠ i4 := fun q => by simp [q] at D
  have nz4 : i4 ≠ z := fun q => by simp [q] at D
  refine ⟨by simp, fun i h st c hc => ?_, fun i h h' st k => ?_, ?_, ?_, fun A i s Q E st h => wpAny_pyIter_zip st.1 h⟩
  · obtain ⟨hz, hI, ⟨a1, a2, a3, a4, hO⟩, h1, h2, h3, h4⟩ := st
    have hc : c = z ∨ c = TI ∨ c = TO ∨ c = i1 ∨ c = i2 ∨ c = i3 ∨ c = i4 := by simpa using hc
    rcases hc with rfl | rfl | rfl | rfl | rfl | rfl | rfl
    · exact ⟨_, hz, fun v q => nomatch q⟩
    · exact ⟨_, hI, fun v q => nomatch q⟩
    · exact ⟨_, hO, fun v q => nomatch q⟩
    · obtain ⟨o, e, _, dd⟩ := h1
      exact ⟨o, e, fun v q => by rw [dd] at q; cases q⟩
    · obtain ⟨o, e, _, dd⟩ := h2
      exact ⟨o, e, fun v q => by rw [dd] at q; cases q⟩
    · obtain ⟨o, e, _, dd⟩ := h3
      exact ⟨o, e, fun v q => by rw [dd] at q; cases q⟩
    · obtain ⟨o, e, _, dd⟩ := h4
      exact ⟨o, e, fun v q => by rw [dd] at q; cases q⟩
  · obtain ⟨hz, hI, ⟨a1, a2, a3, a4, hO⟩, h1, h2, h3, h4⟩ := st
    exact ⟨k z (by simp) _ hz, k TI (by simp) _ hI, ⟨a1, a2, a3, a4, k TO (by simp) _ hO⟩, h1.at fun o q => k i1 (by simp) o q, h2.at fun o q => k i2 (by simp) o q, h3.at fun o q => k i3 (by simp) o q, h4.at fun o q => k i4 (by simp) o q⟩
  · intro X hP hw hK hc i pins s σ H E I hf st hg
    subst hP hw hK
    obtain ⟨hz, hI, ⟨a1, a2, a3, a4, hO⟩, h1, h2, h3, h4⟩ := st
    obtain ⟨ys1, ys2, ys3, ys4, x1, x2, x3, x4, q1, q2, q3, q4, e1, e2, e3, e4⟩ := hg
    obtain ⟨t1, r1, p1, _⟩ := I.list q1
    obtain ⟨u1, v1, w1⟩ := r1.get e1
    obtain ⟨t2, r2, p2, _⟩ := I.list q2
    obtain ⟨u2, v2, w2⟩ := r2.get e2
    obtain ⟨t3, r3, p3, _⟩ := I.list q3
    obtain ⟨u3, v3, w3⟩ := r3.get e3
    obtain ⟨t4, r4, p4, _⟩ := I.list q4
    obtain ⟨u4, v4, w4⟩ := r4.get e4
    have zl : z < s.heap.objs.size := Heap.lt_size hz
    refine next4 D d1 d2 d3 d4 hz hI hO h1 p1.isList h2 p2.isList h3 p3.isList h4 p4.isList (x1 := u1) (x2 := u2) (x3 := u3) (x4 := u4) (by simpa using v1) (by simpa using v2) (by simpa using v3) (by simpa using v4) fun h' z1 O1 j1 j2 j3 j4 T1 sz1 k1 => ?_
    refine ⟨_, rfl, wpAny_letOwnedTupleGo_zip (s := { s with heap := h' }) z1 fun h2 z2 sb => ?_⟩
    have T2 : IsTupA h2 s.heap.objs.size #[u1, u2, u3, u4] := (sb.2 _ (Nat.ne_of_gt zl)).trans T1
    have new : ObjOk X.prog X.w (upd H s.heap.objs.size (.tup [x1, x2, x3, x4])) h2 s.heap.objs.size (.tup [x1, x2, x3, x4]) := ⟨by show 4 ≤ sizeLine; decide, [u1, u2, u3, u4], (.cons w1 (.cons w2 (.cons w3 (.cons w4 .nil)))), ⟨_, T2, rfl, _, rfl⟩⟩
    have old : ∀ c o, c ∉ [z, TI, TO, i1, i2, i3, i4] → s.heap.get? c = some o → h2.get? c = some o := fun c o m q => (sb.2 c (fun r => m (by simp [r]))).trans (k1 c o (fun r => m (by simp at r ⊢; rcases r with r | r | r | r | r | r <;> simp [r])) q)
    have I1 := I.turnedNew (t' := s.toks) (ch := [z, TI, TO, i1, i2, i3, i4]) old hf (Nat.le_refl _) new
    refine ⟨.ref s.heap.objs.size, _, I1, rfl, ⟨_, x1, x2, x3, x4, rfl, I.hok.fresh (Nat.le_refl _), rfl, fun l hl => by rw [I.list_inj hl q1]; exact e1, fun l hl => by rw [I.list_inj hl q2]; exact e2, fun l hl => by rw [I.list_inj hl q3]; exact e3, fun l hl => by rw [I.list_inj hl q4]; exact e4⟩, ⟨z2, ?_, ⟨u1, u2, u3, u4, (sb.2 _ nTO).trans O1⟩, j1.at fun o q => (sb.2 _ nz1).trans q, j2.at fun o q => (sb.2 _ nz2).trans q, j3.at fun o q => (sb.2 _ nz3).trans q, j4.at fun o q => (sb.2 _ nz4).trans q⟩, fun c hcm => ?_⟩
    · exact (sb.2 _ nTI).trans (k1 _ _ (by simp [nTI, nTIO, nTI1, nTI2, nTI3, nTI4]) hI)
    · have lt : c < s.heap.objs.size := by
        have hcm : c = z ∨ c = TI ∨ c = TO ∨ c = i1 ∨ c = i2 ∨ c = i3 ∨ c = i4 := by simpa using hcm
        rcases hcm with rfl | rfl | rfl | rfl | rfl | rfl | rfl
        · exact zl
        · exact Heap.lt_size hI
        · exact Heap.lt_size hO
        · obtain ⟨_, q, _⟩ := h1
          exact Heap.lt_size q
        · obtain ⟨_, q, _⟩ := h2
          exact Heap.lt_size q
        · obtain ⟨_, q, _⟩ := h3
          exact Heap.lt_size q
        · obtain ⟨_, q, _⟩ := h4
          exact Heap.lt_size q
      rw [upd_ne (Nat.ne_of_lt lt)]
      exact (hf c hcm).1
  · intro X hP hw hK hc i pins s σ H E I hf st hg
    subst hP hw hK
    obtain ⟨hz, hI, ⟨a1, a2, a3, a4, hO⟩, h1, h2, h3, h4⟩ := st
    obtain ⟨ys1, ys2, ys3, ys4, q1, q2, q3, q4, le⟩ := hg
    obtain ⟨t1, r1, p1, _⟩ := I.list q1
    obtain ⟨t2, r2, p2, _⟩ := I.list q2
    obtain ⟨t3, r3, p3, _⟩ := I.list q3
    obtain ⟨t4, r4, p4, _⟩ := I.list q4
    have ln := r1.length
    exact stop4 (I.ok.hd hc) D d1 d2 d3 d4 hz hI hO h1 p1.isList h2 p2.isList h3 p3.isList h4 p4.isList (by simp; omega) fun h' hk => ⟨rfl, I.turnedL (t' := s.toks) (ch := [z, TI, TO, i1, i2, i3, i4]) (fun c o m q => hk c o (fun r => m (by simp at r ⊢; rcases r with r | r | r | r | r | r <;> simp [r])) q) hf⟩
def iZip4 (K : PySem.W.Frag) (ta : TA) : TI := fun σ H R => ta σ H fun vs H1 => ∃ (l1 l2 l3 l4 : Addr) (ys1 ys2 ys3 ys4 : List V), vs = [.ref l1, .ref l2, .ref l3, .ref l4] ∧ SqL K H1 l1 ys1 ∧ SqL K H1 l2 ys2 ∧ SqL K H1 l3 ys3 ∧ SqL K H1 l4 ys4 ∧ R (It4 K l1 l2 l3 l4) H1
theorem pi_zip4 {X : Cx} {e1 e2 e3 e4 : Expr} {ta : TA} {p pos tpos : Pos} {elts : List Expr} {kk : Nat} (hg : Gl X "zip") (hm : X.mg "zip" = none) (ha : PA X [e1, e2, e3, e4] ta)
    (hs : starEach [e1, e2, e3, e4] X.env = (false, eval e1 X.env) :: starEach [e2, e3, e4] X.env := by rfl) (hpl : (backTo pos (starEach [e2, e3, e4] X.env)).any (·.1) = false := by rfl) :
    PI X (.Tuple elts kk tpos) (.Call (.Name "zip" p) [e1, e2, e3, e4] [] pos) (iZip4 X.K ta) := by
  constructor
  intro pins s σ H R I h
  refine Call_ (ld_blt I hg hm PyProof.Rows.boot_zip (PyProof.Rows.callWith_type1 (thn (ha.run pos pins s σ H _ I h) fun us s1 ⟨vs, H1, I1, r1, q1⟩ => ?_) hs hpl))
  obtain ⟨l1, l2, l3, l4, ys1, ys2, ys3, ys4, rfl, q1, q2, q3, q4, q⟩ := q1
  obtain ⟨c1, d1, rfl, b1, r2⟩ := vals_cons r1
  obtain ⟨c2, d2, rfl, b2, r3⟩ := vals_cons r2
  obtain ⟨c3, d3, rfl, b3, r4⟩ := vals_cons r3
  obtain ⟨c4, d4, rfl, b4, r5⟩ := vals_cons r4
  obtain rfl := vals_nil r5
  cases b1
  obtain ⟨t1, w1, p1, _⟩ := I1.list q1
  have m1 : l1 < s1.heap.objs.size := p1.lt
  cases b2
  obtain ⟨t2, w2, p2, _⟩ := I1.list q2
  have m2 : l2 < s1.heap.objs.size := p2.lt
  cases b3
  obtain ⟨t3, w3, p3, _⟩ := I1.list q3
  have m3 : l3 < s1.heap.objs.size := p3.lt
  cases b4
  obtain ⟨t4, w4, p4, _⟩ := I1.list q4
  have m4 : l4 < s1.heap.objs.size := p4.lt
  refine call4 p1.isList p2.isList p3.isList p4.isList fun h' hz hI hO h1 h2 h3 h4 hk => wpAny_pyIter_zip hz ?_
  have I2 : Inv X pins σ H1 { s1 with heap := h' } := I1.kept (t' := s1.toks) hk
  have big : ∀ c ∈ [s1.heap.objs.size + 6, s1.heap.objs.size + 4, s1.heap.objs.size + 5, s1.heap.objs.size, s1.heap.objs.size + 1, s1.heap.objs.size + 2, s1.heap.objs.size + 3], s1.heap.objs.size ≤ c := fun c m => by
    simp only [List.mem_cons, List.not_mem_nil, or_false] at m
    omega
  have big2 : ∀ c ∈ [s1.heap.objs.size + 6, s1.heap.objs.size + 5, s1.heap.objs.size, s1.heap.objs.size + 1, s1.heap.objs.size + 2, s1.heap.objs.size + 3], s1.heap.objs.size ≤ c := fun c m => by
    simp only [List.mem_cons, List.not_mem_nil, or_false] at m
    omega
  refine ⟨s1.heap.objs.size + 6, [s1.heap.objs.size + 6, s1.heap.objs.size + 4, s1.heap.objs.size + 5, s1.heap.objs.size, s1.heap.objs.size + 1, s1.heap.objs.size + 2, s1.heap.objs.size + 3], _, _, H1, rfl, I2, turn4 (by simp; try omega) (fun q => absurd (big2 _ q) (Nat.not_le_of_lt m1)) (fun q => absurd (big2 _ q) (Nat.not_le_of_lt m2)) (fun q => absurd (big2 _ q) (Nat.not_le_of_lt m3)) (fun q => absurd (big2 _ q) (Nat.not_le_of_lt m4)), ⟨hz, hI, ⟨_, _, _, _, hO⟩, h1, h2, h3, h4⟩, fun c m => I1.fpOk (big c m) (I1.hok.fresh (big c m)), q⟩
end ZN

namespace IXL
open PySem PySem.Spec PyProof.Rows L2
/-! ### list.index of a number that is there -/
theorem ints_are : ∀ {ns : List Int} {us : List Value}, Vals (ns.map V.int) us → IntsAre us ns
  | [], us, h => by cases h; exact .nil
  | n :: r, us, h => by
    cases h with
    | cons a b =>
      obtain ⟨t, rfl⟩ := a
      exact .cons n t (ints_are b)
theorem mt_indexI {X : Cx} : MtR X "list.index" (fun x vs H Q => ∃ (l : Addr) (ns : List Int) (k : Int), x = .ref l ∧ vs = [.int k] ∧ H l = some (.lst (ns.map V.int)) ∧ k ∈ ns ∧ Q (.int (ns.idxOf k : Nat)) H) := by
  intro pins s σ H x vs v us Q I rx rv h
  obtain ⟨l, ns, k, rfl, rfl, hH, hk, q⟩ := h
  cases rx
  obtain ⟨u, rfl, ru⟩ := rv.one
  obtain ⟨t, rfl⟩ := ru
  obtain ⟨z, its, n, r, hl, e⟩ := I.lstM hH
  refine PySem.SeqAt.list_index_ints (vs := its) ⟨_, e, rfl, ⟨_, rfl⟩⟩ (ints_are r) (by rw [List.length_map] at z; exact z) hk ?_
  exact ⟨.int (ns.idxOf k : Nat), H, I.tok _, ⟨_, rfl⟩, q⟩
/-- a method of a built-in type, in a block -/
theorem pe_bmK {X : Cx} {K : PySem.W.Frag} (hK : X.K = K) {o e : Expr} {es : List Expr} {to : TE} {t : TA} {name : Str} {apos cpos : Pos} {T id : String} {r : V → List V → Hp → VK → Prop} (pa : PlainAttrs T) (slot : Slot T name id) (hty : typeOf (.builtin id) = pure (.type "method_descriptor")) (hm : MtR X id r) (ho : PE X o to) (ha : PA X (e :: es) t)
    (hbase : attributeBase o name X.env (eval o X.env) = eval o X.env := by rfl)
    (hfew : ((backTo cpos (starEach (e :: es) X.env)).all (fun x => !x.1) && (backToKw cpos (keywordEach [] X.env)).all (fun x => x.1.isSome)
      && decide ((e :: es).length + ([] : List Keyword).length + (if ([] : List Keyword).isEmpty then 0 else 1) < 30)) = true := by rfl)
    (hline : (apos.endLine == cpos.line) = true := by rfl) (hs : starEach (e :: es) X.env = (false, eval e X.env) :: starEach es X.env := by rfl) (hplain : (backTo cpos (starEach es X.env)).any (·.1) = false := by rfl) :
    PE X (.Call (.Attribute o name apos) (e :: es) [] cpos) (tBM K T r to t) := hK ▸ pe_bm pa slot hty hm ho ha hbase hfew hline hs hplain
end IXL

namespace MX
open PySem PySem.Spec PyProof.Rows L2
/-! ### match over texts -/
/-- the texts that a pattern names -/
def one : Pattern → Option Str
  | .MatchValue (.Constant (.str c) _ _) _ => some c
  | _ => none
def ones : List Pattern → Option (List Str)
  | [] => some []
  | p :: r => match one p, ones r with
    | some c, some cs => some (c :: cs)
    | _, _ => none
theorem ones_inv {p : Pattern} {r : List Pattern} {cs : List Str} (h : ones (p :: r) = some cs) : ∃ c cs', one p = some c ∧ ones r = some cs' ∧ cs = c :: cs' := by
  unfold ones at h
  split at h
  · rename_i c cs' e1 e2
    cases h
    exact ⟨c, cs', e1, e2, rfl⟩
  · cases h
def texts : Pattern → Option (List Str)
  | .MatchOr ps _ => ones ps
  | p => (one p).map fun c => [c]
theorem one_inv {p : Pattern} {c : Str} (h : one p = some c) : ∃ j a b, p = .MatchValue (.Constant (.str c) j a) b := by
  unfold one at h
  split at h
  · cases h; exact ⟨_, _, _, rfl⟩
  · cases h
abbrev TC := V → TS
section
variable {X : Cx}
structure PMc (X : Cx) (cs : List MatchCase) (t : TC) : Prop where
  run : ∀ (first : Bool) (pins : List (Addr × Obj)) (s : Shared) (σ : L2.St) (H : Hp) (v : V) (u : Value) (D : Ends), Inv X pins σ H s → RelV v u → t v D σ H → wpAny (model X.prog X.w) X.A (matchCases cs X.env u first) (SP X pins D) X.xe s
theorem one_run {p : Pattern} {c z : Str} {t : Tok} {pins : List (Addr × Obj)} {s : Shared} {σ : L2.St} {H : Hp} {E : Value → Shared → Prop} {Q : Option (List (Str × Value)) → Shared → Prop} (h : one p = some c) (I : Inv X pins σ H s)
    (q : ∀ s', Inv X pins σ H s' → Q (if z = c then some [] else none) s') : wpAny (model X.prog X.w) X.A (matchPattern p X.env (.str z t)) Q E s := by
  obtain ⟨j, a, b, rfl⟩ := one_inv h
  refine wpAny_matchPattern_Value (Calls.Constant_str (PyProof.Rows.eq_str (wpAny_truthy_bool ?_)))
  have qq := q _ (I.tok (s.toks + 1))
  by_cases e : z = c
  · rw [if_pos e] at qq
    rw [if_pos (by rw [e]; exact beq_self_eq_true c)]
    exact qq
  · rw [if_neg e] at qq
    rw [if_neg (by simpa using e)]
    exact qq
theorem first_run {z : Str} {t : Tok} {pins : List (Addr × Obj)} {σ : L2.St} {H : Hp} {E : Value → Shared → Prop} : ∀ {ps : List Pattern} {cs : List Str} {s : Shared} {Q : Option (List (Str × Value)) → Shared → Prop}, ones ps = some cs → Inv X pins σ H s →
    (∀ s', Inv X pins σ H s' → Q (if z ∈ cs then some [] else none) s') → wpAny (model X.prog X.w) X.A (matchFirst ps X.env (.str z t)) Q E s
  | [], cs, s, Q, h, I, q => by
    cases h
    exact wpAny_matchFirst_nil (by have := q s I; rw [if_neg (List.not_mem_nil)] at this; exact this)
  | p :: ps, _, s, Q, h, I, q => by
        obtain ⟨c, r, e1, e2, rfl⟩ := ones_inv h
        refine wpAny_matchFirst_cons (one_run e1 I fun s1 I1 => ?_)
        by_cases c1 : z = c
        · rw [if_pos c1]
          have qq := q s1 I1
          rw [if_pos (by rw [c1]; exact List.mem_cons_self)] at qq
          exact qq
        · rw [if_neg c1]
          refine first_run e2 I1 fun s2 I2 => ?_
          have qq := q s2 I2
          by_cases c2 : z ∈ r
          · rw [if_pos (List.mem_cons_of_mem _ c2)] at qq
            rw [if_pos c2]
            exact qq
          · rw [if_neg (fun m => (List.mem_cons.mp m).elim c1 c2)] at qq
            rw [if_neg c2]
            exact qq
theorem nonames : ∀ {ps : List Pattern} {cs : List Str}, ones ps = some cs → namesOfAll (ps.take 1) = []
  | [], _, _ => rfl
  | p :: ps, cs, h => by
    obtain ⟨c, r, e1, e2, rfl⟩ := ones_inv h
    obtain ⟨j, a, b, rfl⟩ := one_inv e1
    rfl
theorem pat_run {p : Pattern} {cs : List Str} {z : Str} {t : Tok} {pins : List (Addr × Obj)} {s : Shared} {σ : L2.St} {H : Hp} {E : Value → Shared → Prop} {Q : Option (List (Str × Value)) → Shared → Prop} (h : texts p = some cs) (I : Inv X pins σ H s)
    (q : ∀ s', Inv X pins σ H s' → Q (if z ∈ cs then some [] else none) s') : wpAny (model X.prog X.w) X.A (matchPattern p X.env (.str z t)) Q E s := by
  unfold texts at h
  split at h
  · rename_i ps pos
    refine wpAny_matchPattern_Or (first_run h I fun s1 I1 => ?_)
    have qq := q s1 I1
    by_cases c : z ∈ cs
    · rw [if_pos c] at qq ⊢
      rw [nonames h]
      exact qq
    · rw [if_neg c] at qq ⊢
      exact qq
  · cases e : one p with
    | none => rw [e] at h; cases h
    | some c =>
      rw [e] at h
      cases h
      refine one_run e I fun s1 I1 => ?_
      have qq := q s1 I1
      by_cases c1 : z = c
      · rw [if_pos (by rw [c1]; exact List.mem_singleton.mpr rfl)] at qq
        rw [if_pos c1]
        exact qq
      · rw [if_neg (fun m => c1 (List.mem_singleton.mp m))] at qq
        rw [if_neg c1]
        exact qq
def tMnil : TC := fun _ D σ H => D.nx σ H
def tMtx (cs : List Str) (tb : TS) (r : TC) : TC := fun v D σ H => ∃ z, v = .str z ∧ if z ∈ cs then tb D σ H else r v D σ H
def tMany (tb : TS) : TC := fun _ D σ H => tb D σ H
def tMcap (i : Nat) (tb : TS) : TC := fun v D σ H => tb D (σ.set i (some v)) H
theorem pmc_nil : PMc X [] tMnil := ⟨fun _ _ _ σ H _ _ _ I _ h => wpAny_matchCases_nil ⟨σ, H, I, h⟩⟩
theorem pmc_tx {p : Pattern} {body : List Stmt} {rest : List MatchCase} {cs : List Str} {tb : TS} {r : TC} (h : texts p = some cs) (hb : PSs X body tb) (hr : PMc X rest r) : PMc X (⟨p, none, body⟩ :: rest) (tMtx cs tb r) := by
  refine ⟨fun first pins s σ H v u D I rv q => ?_⟩
  obtain ⟨z, rfl, q⟩ := q
  obtain ⟨t, rfl⟩ := rv
  refine wpAny_matchCases_cons (pat_run h I fun s1 I1 => ?_)
  by_cases c : z ∈ cs
  · rw [if_pos c] at q ⊢
    exact wpAny_assignInOrder_none (hb.run pins s1 σ H D I1 q)
  · rw [if_neg c] at q ⊢
    exact hr.run false pins s1 σ H (.str z) (.str z t) D I1 ⟨t, rfl⟩ q
theorem pmc_any {body : List Stmt} {rest : List MatchCase} {pos : Pos} {tb : TS} (hb : PSs X body tb) : PMc X (⟨.MatchAs none none pos, none, body⟩ :: rest) (tMany tb) :=
  ⟨fun first pins s σ H v u D I rv q => wpAny_matchCases_cons (wpAny_matchPattern_Capture (wpAny_assignInOrder_none (hb.run pins s σ H D I q)))⟩
theorem pmc_cap {body : List Stmt} {rest : List MatchCase} {pos : Pos} {n : Str} {i : Nat} {tb : TS} (hN : X.N.Nodup) (hi : X.N[i]? = some n) (hx : Loc X.env.scope n) (hb : PSs X body tb)
    (hf : X.fn n = true ∨ X.env.scope.names.lookup n = some .local := by first | exact .inl rfl | exact .inr rfl) : PMc X (⟨.MatchAs none (some n) pos, none, body⟩ :: rest) (tMcap i tb) := by
  refine ⟨fun first pins s σ H v u D I rv q => wpAny_matchCases_cons (wpAny_matchPattern_Capture ?_)⟩
  refine wpAny_assignInOrder_more (wpAny_bindName (store_ok I hN hi hx rv (fun s1 I1 => wpAny_assignInOrder_none (hb.run pins s1 _ H D I1 q)) hf))
/-- match e: .. -/
def tMatch (te : TE) (r : TC) : TS := fun D σ H => te σ H fun v H1 => r v D σ H1
theorem ps_match {e : Expr} {cases : List MatchCase} {pos : Pos} {te : TE} {r : TC} (he : PE X e te) (hc : PMc X cases r) : PS X (.Match e cases pos) (tMatch te r) :=
  ⟨fun pins s σ H D I h => wpAny_Match (thn (he.run pins s σ H _ I h) fun u s1 ⟨v, H1, I1, rv, q⟩ => hc.run true pins s1 σ H1 v u D I1 rv q)⟩
end
end MX

namespace RT
open PySem PySem.Spec PyProof.Rows L2
/-! ### t[:0:-1] of a tuple of one to three items: the items behind the first one, backwards -/
section
variable {prog : Program} {w : World} {A : Around} {E : Value → Shared → Prop} {s : Shared}
theorem part_of {v : Value} {o : Option Int} {Q : Option Int → Shared → Prop} (p : IsPart v o) (h : Q o s) : wpAny (model prog w) A (Builtin.Slice.slicePartIndex v) Q E s := HT.slicePart_ p h
theorem applied {sl : Addr} {vl vu vs : Value} {n : Nat} {Q : Int × Int × Nat → Shared → Prop} (hs : s.heap.IsSliceOf sl vl vu vs) (pl : IsPart vl none) (pu : IsPart vu (some 0)) (ps : IsPart vs (some (-1))) (h0 : 1 ≤ n) (h3 : n ≤ 3)
    (h : Q ((n : Int) - 1, -1, n - 1) s) : wpAny (model prog w) A (Builtin.Slice.sliceApplied (.ref sl) (pure (n : Int))) Q E s := by
  obtain ⟨os, hos, hcs, hds⟩ := id hs
  unfold Builtin.Slice.sliceApplied Builtin.Slice.sliceFields
  refine wpAny_bind (wpAny_bind (wpAny_field hos hds (x := vl) rfl (wpAny_bind (wpAny_field hos hds (x := vu) rfl (wpAny_bind (wpAny_field hos hds (x := vs) rfl (wpAny_pure ?_)))))))
  refine wpAny_bind (part_of ps ?_)
  show wpAny _ _ (if ((-1 : Int) == 0) = true then _ else _) _ _ s
  rw [if_neg (by decide)]
  refine wpAny_bind (part_of pl (wpAny_bind (part_of pu (wpAny_bind (wpAny_pure ?_)))))
  have hn : n = 1 ∨ n = 2 ∨ n = 3 := by omega
  rcases hn with rfl | rfl | rfl
  · exact wpAny_pure h
  · exact wpAny_pure h
  · exact wpAny_pure h
theorem backwards {its : List Value} (h0 : 1 ≤ its.length) (h3 : its.length ≤ 3) : ((List.range (its.toArray.size - 1)).filterMap fun (k : Nat) => its.toArray[(((its.toArray.size : Int) - 1) + (k : Int) * (-1)).toNat]?).toArray = (its.drop 1).reverse.toArray := by
  rcases its with _ | ⟨a, _ | ⟨b, _ | ⟨c, _ | ⟨d, r⟩⟩⟩⟩
  · exact absurd h0 (by simp)
  · simp
  · simp [List.range_succ]
  · simp [List.range_succ]
  · simp only [List.length_cons] at h3
    omega
theorem item_back {t sl : Addr} {its : List Value} {vl vu vs : Value} {Q : Value → Shared → Prop} (ht : IsTup s.heap t its.toArray) (hs : s.heap.IsSliceOf sl vl vu vs) (pl : IsPart vl none) (pu : IsPart vu (some 0)) (ps : IsPart vs (some (-1)))
    (h0 : 1 ≤ its.length) (h3 : its.length ≤ 3) (h : Q (.ref s.heap.objs.size) { s with heap := s.heap.push { cls := .type "tuple", data := .seq (its.drop 1).reverse.toArray } }) : wpAny (model prog w) A (getItem (.ref t) (.ref sl)) Q E s := by
  obtain ⟨os, hos, hcs, hds⟩ := id hs
  have hTs : s.TypeIs (.ref sl) "slice" := ⟨os, hos, hcs⟩
  unfold getItem
  try with_reducible refine wpAny_holding ?_
  first | refine wpAny_bind (wpAny_pure ?_) | skip
  refine wpAny_bind (wpAny_sequenceKey ht.typeIs (by decide) ?_)
  refine wpAny_bind (wpAny_callSpecial?_slot (name := Str.ofString "__getitem__") ht.typeIs PyProof.Rows.slot_tuple_getitem
    (wpAny_call_entry PyProof.Rows.slot_tuple_getitem ht.typeIs entry_tuple_getitem ?_ (args_tuple_getitem _ _)))
  show wpAny _ _ (Builtin.Tuple.tupleItemsOf (.ref t) >>= _) _ _ s
  refine wpAny_bind (tupleItemsOf_ ht ?_)
  refine wpAny_bind (wpAny_typeOf hTs ?_)
  rw [if_pos (by decide)]
  refine wpAny_bind (applied (n := its.toArray.size) hs pl pu ps (by simpa using h0) (by simpa using h3) ?_)
  have hno : ∀ k : Nat, ¬ ((((its.toArray.size : Int) - 1) == 0 && (-1 : Int) == 1 && k == its.toArray.size) = true) := fun k q => by
    rw [Bool.and_eq_true, Bool.and_eq_true] at q
    exact absurd q.1.2 (by decide)
  show wpAny _ _ (if (((its.toArray.size : Int) - 1) == 0 && (-1 : Int) == 1 && (its.toArray.size - 1) == its.toArray.size) = true then _ else _) _ _ s
  rw [if_neg (hno _)]
  rw [backwards h0 h3]
  have hz : sizeOk (.seq (its.drop 1).reverse.toArray) := by
    show (its.drop 1).reverse.toArray.size ≤ sizeLine
    rw [List.size_toArray, List.length_reverse, List.length_drop, sizeLine_eq]
    omega
  first
    | exact wpAny_bind (m := Builtin.Tuple.tupleExact _) (wpAny_newObj_type (wpAny_pure ⟨_, rfl, wpAny_pure h⟩) hz)
    | exact wpAny_bind (m := Builtin.Tuple.tupleExact _) (wpAny_newObj_type (wpAny_bind (wpAny_pure (wpAny_pure ⟨_, rfl, wpAny_pure h⟩))) hz)
    | exact wpAny_bind (wpAny_bind (m := Builtin.Tuple.tupleExact _) (wpAny_newObj_type (wpAny_pure (wpAny_pure ⟨_, rfl, wpAny_pure h⟩)) hz))
    | exact wpAny_bind (wpAny_bind (m := Builtin.Tuple.tupleExact _) (wpAny_newObj_type (wpAny_pure ⟨_, rfl, wpAny_pure h⟩) hz))
end
section
variable {X : Cx} {e : Expr} {te : TE} {k0 k : Nat} {p0 p1 p2 p3 pos : Pos}
def tTail (K : PySem.W.Frag) (te : TE) : TE := fun σ H Q => te σ H fun x H1 => ∃ a xs, x = .ref a ∧ SqT K H1 a xs ∧ 1 ≤ xs.length ∧ xs.length ≤ 3 ∧ ∀ p, H1 p = none → Q (.ref p) (upd H1 p (.tup (xs.drop 1).reverse))
theorem pe_tail (he : PE X e te) : PE X (.Subscript e (.Slice none (some (.Constant (.int 0) k0 p0)) (some (.UnaryOp .USub (.Constant (.int 1) k p1) p2)) p3) pos) (tTail X.K te) := by
  refine ⟨fun pins s σ H Q I h => ?_⟩
  refine Subscript_ (thn (he.run pins s σ H _ I h) fun v s1 ⟨x, H1, I1, r1, q1⟩ => ?_)
  obtain ⟨a, xs, rfl, hx, h0, h3, q⟩ := q1
  cases r1
  have hst : PO X (some (.UnaryOp .USub (.Constant (.int 1) k p1) p2)) (tPart (tUn (rU fun i => .int (-i)) (tC (.int 1)))) := po_some (pe_un un_neg pe_int)
  have hup : PO X (some (.Constant (.int 0) k0 p0)) (tPart (tC (.int 0))) := po_some pe_int
  refine wpAny_Slice (thn (po_none.run pins s1 σ H1 (fun o H2 => o = none ∧ H2 = H1) I1 ⟨rfl, rfl⟩) fun vl s2 ⟨l, H2, I2, pl, el, e2⟩ => ?_)
  subst el e2
  refine thn (hup.run pins s2 σ H2 (fun o H3 => o = some 0 ∧ H3 = H2) I2 ⟨0, rfl, rfl, rfl⟩) fun vu s3 ⟨u, H3, I3, pu, eu, e3⟩ => ?_
  subst eu e3
  refine thn (hst.run pins s3 σ H3 (fun o H4 => o = some (-1) ∧ H4 = H3) I3 ⟨1, rfl, -1, rfl, rfl, rfl⟩) fun vs s4 ⟨o, H4, I4, ps, eo, e4⟩ => ?_
  subst eo e4
  have I5 : Inv X pins σ H4 { s4 with heap := s4.heap.push { cls := .type "slice", data := .fields #[vl, vu, vs] } } := I4.kept (t' := s4.toks) fun b ob q => Heap.get?_push_of_some _ q
  obtain ⟨its, r, ht, hz⟩ := I5.tuple hx
  have hlen := r.length
  show wpAny (model X.prog X.w) X.A (subscriptTail e (.Slice none (some (.Constant (.int 0) k0 p0)) (some (.UnaryOp .USub (.Constant (.int 1) k p1) p2)) p3) (.ref a) (.ref s4.heap.objs.size)) (EP X pins σ Q) X.xe { s4 with heap := s4.heap.push { cls := .type "slice", data := .fields #[vl, vu, vs] } }
  refine tail_any (ops := [.ref a, .ref s4.heap.objs.size]) ht.typeIs (PyProof.Rows.slot_tuple_getitem.lookup) ?_ (by with_unfolding_all rfl)
  refine item_back ht (Heap.IsSliceOf.new _ vl vu vs) pl pu ps (by omega) (by omega) ?_
  refine ⟨.ref _, _, I5.laid (t' := s4.toks) (o := .tup (xs.drop 1).reverse) (fun b ob q => Heap.get?_push_of_some _ q) (Nat.le_refl _) ?_, rfl, q _ (I5.hok.fresh (Nat.le_refl _))⟩
  exact ⟨by rw [List.length_reverse, List.length_drop]; omega, _, (r.drop 1).reverse, IsTup.new _ _⟩
end
end RT

namespace ET
open PySem PySem.Spec PyProof.Rows L2
/-- xs.extend(t), t a tuple -/
theorem ext_tup (l : Addr) (items : Array Value) (n : Nat) (b : Addr) (items2 : Array Value) (h0 : ¬ (!items.isEmpty && Builtin.List.listTooLong (items.size + items2.size)) = true) (h1 : items.size ≤ sizeLine) (h2 : items.size + items2.size ≤ sizeLine + 1) :
    Meets (Builtin.«list.extend» ⟨[.ref l, .ref b], []⟩) (fun _ R s => s.heap.get? l = some { cls := .type "list", dict := none, data := .seq items n, slots := #[] } ∧ (∃ o m, s.heap.get? b = some o ∧ o.cls = .type "tuple" ∧ o.data = .seq items2 m) ∧ R (.ok (.ret Value.none)) { s with heap := s.heap.update l (Obj.mapSeq fun x => x ++ items2) }) := by
  intro prog w A R s h
  obtain ⟨hS, ⟨o, m, ho, hc, hd⟩, hR⟩ := h
  show wpAny _ A.in1 (Builtin.List.listExtendWith (.ref l) (.ref b) .none) _ _ s
  unfold Builtin.List.listExtendWith
  refine wpAny_bind (wpAny_typeOf ⟨o, ho, hc⟩ ?_)
  have e1 : (Builtin.List.listSameRef (.ref l) (.ref b) || Value.type "tuple" == Value.type "list" || Value.type "tuple" == Value.type "tuple") = true := by simp
  simp only [e1, if_true]
  refine wpAny_bind ?_
  unfold Builtin.List.listItems
  refine wpAny_bind (wpAny_seqItems ho hd (wpAny_pure ?_))
  refine wpAny_bind ?_
  refine wpAny_bind (wpAny_seqItems hS rfl (wpAny_pure ?_))
  rw [if_neg h0]
  show wpAny _ A.in1 (updateSeq l (· ++ items2) >>= fun _ => PySem.ret .none) _ _ s
  have hz' : (items ++ items2).size ≤ sizeLine + 1 := by rw [Array.size_append]; exact h2
  refine wpAny_bind (wpAny_updateSeq hS rfl (hz := h1) (_hz' := hz') ?_)
  exact wpAny_pure hR
section
variable {X : Cx}
def rExtT (K : PySem.W.Frag) : V → List V → Hp → VK → Prop := fun x vs H Q => ∃ l b xs zs, x = .ref l ∧ vs = [.ref b] ∧ H l = some (.lst xs) ∧ SqT K H b zs ∧ xs.length + zs.length ≤ sizeLine ∧ Q .non (upd H l (.lst (xs ++ zs)))
theorem mt_extT : MtM X "list.extend" (rExtT X.K) := by
  intro pins s σ H x vs v us Q I rx rv h
  obtain ⟨l, b, xs, zs, rfl, rfl, hH, hB, hz, q⟩ := h
  cases rx
  obtain ⟨u, rfl, ru⟩ := rv.one
  cases ru
  obtain ⟨z, its, n, r, hl, e⟩ := I.lstM hH
  obtain ⟨its2, r2, ⟨o, ho, hc, m, hd⟩, z2⟩ := I.tuple hB
  have hl2 := r2.length
  have hsz : its.toArray.size + its2.toArray.size ≤ sizeLine := by rw [List.size_toArray, List.size_toArray]; omega
  have hlong : ¬ (!its.toArray.isEmpty && Builtin.List.listTooLong (its.toArray.size + its2.toArray.size)) = true := by
    rw [notLongL hsz, Bool.and_false]
    exact Bool.false_ne_true
  refine call_meets F.slot_list_extend ⟨_, e, rfl⟩ F.entry_list_extend (F.args_list_extend_2 _ _)
    (ext_tup l its.toArray n b its2.toArray hlong (by rw [List.size_toArray]; omega) (by omega)) ⟨e, ⟨o, m, ho, hc, hd⟩, ?_⟩
  refine ⟨.non, _, I.lset (its' := its ++ its2) hH e (by simp) (r.append r2) ?_, rfl, q⟩
  rw [List.length_append]
  omega
end
end ET

namespace LZ
open PySem PySem.Spec PyProof.Rows L2
/-! ### list(zip(xs, ys)) of two lists of one length: new pairs in a new list -/
theorem zip_no_len : typeLookup (.type "zip") "__len__" = pure none := am_miss_of_fast (by decide +kernel)
theorem zip_no_hint : typeLookup (.type "zip") "__length_hint__" = pure none := am_miss_of_fast (by decide +kernel)
structure ZSt (h : Heap) (z TI TO i1 i2 a b : Addr) (i : Nat) : Prop where
  z : IsZip h z TI TO .none ∧ (∃ x y, IsPair h TO x y) ∨ ∃ T f oT, IsZipHeld h z TI TO T f ∧ h.get? T = some oT
  TI : IsPair h TI (.ref i1) (.ref i2)
  TO : ∃ o, h.get? TO = some o
  l1 : h.IsListIter i1 a i
  l2 : h.IsListIter i2 b i
theorem ZSt.lt {h : Heap} {z TI TO i1 i2 a b : Addr} {i : Nat} (Z : ZSt h z TI TO i1 i2 a b i) : ∀ c ∈ [z, TI, TO, i1, i2], c < h.objs.size := by
  intro c hc
  simp only [List.mem_cons, List.not_mem_nil, or_false] at hc
  rcases hc with rfl | rfl | rfl | rfl | rfl
  · rcases Z.z with q | ⟨T, f, oT, q, _⟩
    · exact Heap.lt_size q.1
    · exact Heap.lt_size q
  · exact Heap.lt_size Z.TI
  · exact let ⟨_, q⟩ := Z.TO; Heap.lt_size q
  · exact let ⟨_, q, _⟩ := Z.l1; Heap.lt_size q
  · exact let ⟨_, q, _⟩ := Z.l2; Heap.lt_size q
/-- the same objects in a later heap -/
theorem ZSt.at {h h' : Heap} {z TI TO i1 i2 a b : Addr} {i : Nat} (Z : ZSt h z TI TO i1 i2 a b i) (S : Addr) (hS : S ∉ [z, TI, TO, i1, i2]) (k : ∀ c o, c ≠ S → h.get? c = some o → h'.get? c = some o) (t : ∀ c o, h.get? c = some o → ∃ o', h'.get? c = some o') : ZSt h' z TI TO i1 i2 a b i := by
  have n : ∀ c, c ∈ [z, TI, TO, i1, i2] → c ≠ S := fun c m e => hS (e ▸ m)
  refine ⟨?_, k _ _ (n _ (by simp)) Z.TI, let ⟨o, q⟩ := Z.TO; t _ _ q, Z.l1.at fun o q => k _ o (n _ (by simp)) q, Z.l2.at fun o q => k _ o (n _ (by simp)) q⟩
  rcases Z.z with ⟨q, x, y, q2⟩ | ⟨T, f, oT, q, q2⟩
  · exact .inl ⟨k _ _ (n _ (by simp)) q, x, y, k _ _ (n _ (by simp)) q2⟩
  · obtain ⟨o', e⟩ := t _ _ q2
    exact .inr ⟨T, f, o', k _ _ (n _ (by simp)) q, e⟩
/-- the pairs that stand in the list -/
structure Made (H0 H : Hp) (xs ys : List V) (ts : List Addr) : Prop where
  keep : Same H0 H
  pairs : ∀ (j : Nat) (t : Addr), ts[j]? = some t → H0 t = none ∧ ∃ x y, xs[j]? = some x ∧ ys[j]? = some y ∧ H t = some (.tup [x, y])
section
variable {X : Cx} {pins : List (Addr × Obj)} {σ : L2.St} {H0 : Hp} {z TI TO i1 i2 a b S : Addr} {xs ys : List V} {A1 : Around} {Rs : Result → Shared → Prop}
theorem zip_loop (D : ZipApart z TI TO i1 i2 a b) (hh : A1.handled = none) (hS : S ∉ [z, TI, TO, i1, i2]) (hS0 : H0 S = none) (aS : a ≠ S) (bS : b ≠ S) (hl : xs.length = ys.length) (hz : xs.length ≤ 1000000)
    (hdone : ∀ H ts s, Inv X pins σ H s → Made H0 H xs ys ts → ts.length = xs.length → H S = some (.lst (ts.map V.ref)) → Rs (.ok (.ret .none)) s) :
    ∀ (m : Nat) (ts : List Addr) (H : Hp) (s : Shared), ts.length + m = xs.length → Inv X pins σ H s → (∀ c ∈ [z, TI, TO, i1, i2], FpOk X pins H c) → ZSt s.heap z TI TO i1 i2 a b ts.length → SqL X.K H a xs → SqL X.K H b ys →
      H S = some (.lst (ts.map V.ref)) → Made H0 H xs ys ts → codeAny (model X.prog X.w) A1 (.builtin "list.extend.loop" ⟨[.ref S, .ref z, .none], []⟩) Rs s := by
  intro m
  induction m with
  | zero =>
    intro ts H s hm I hf Z ha hb hL hM
    obtain ⟨its, r1, p1, _⟩ := I.list ha
    obtain ⟨its2, r2, p2, _⟩ := I.list hb
    have l1 := r1.length
    have l2 := r2.length
    have he : its.toArray[ts.length]? = none ∨ its2.toArray[ts.length]? = none := .inl (by simp; omega)
    refine codeAny_builtin PySem.F.entry_extend_loop ?_
    rw [Around.under_plainId PySem.F.plain_extend_loop _]
    show wpAny _ A1.in1 (pyNext (.ref z) >>= _) _ _ s
    refine wpAny_bind ?_
    have fin : ∀ h' : Heap, (∀ c o, c ≠ z → c ≠ TO → c ≠ i1 → c ≠ i2 → s.heap.get? c = some o → h'.get? c = some o) → Rs (.ok (.ret .none)) { s with heap := h' } := fun h' k => by
      refine hdone H ts _ (I.turnedL (t' := s.toks) (ch := [z, TI, TO, i1, i2]) (fun c o hb q => ?_) hf) hM (by omega) hL
      exact k c o (fun e => hb (by simp [e])) (fun e => hb (by simp [e])) (fun e => hb (by simp [e])) (fun e => hb (by simp [e])) q
    rcases Z.z with ⟨q, x, y, q2⟩ | ⟨T, f, oT, q, q2⟩
    · exact wpAny_pyNext_zip_end hh D q Z.TI q2 Z.l1 Z.l2 p1.isList p2.isList he fun h' k => wpAny_pure (fin h' k)
    · exact wpAny_pyNext_zip_end_held hh D q q2 Z.TI Z.l1 Z.l2 p1.isList p2.isList he fun h' k => wpAny_pure (fin h' fun c o c1 _ c2 c3 e => k c o c1 c2 c3 e)
  | succ m ih =>
    intro ts H s hm I hf Z ha hb hL hM
    obtain ⟨its, r1, p1, _⟩ := I.list ha
    obtain ⟨its2, r2, p2, _⟩ := I.list hb
    have i1lt : ts.length < xs.length := by omega
    have i2lt : ts.length < ys.length := by omega
    obtain ⟨x, hx⟩ : ∃ x, xs[ts.length]? = some x := ⟨_, List.getElem?_eq_getElem i1lt⟩
    obtain ⟨y, hy⟩ : ∃ y, ys[ts.length]? = some y := ⟨_, List.getElem?_eq_getElem i2lt⟩
    obtain ⟨u, hu, ru⟩ := r1.get hx
    obtain ⟨u2, hu2, ru2⟩ := r2.get hy
    have hT0 : H s.heap.objs.size = none := I.hok.fresh (Nat.le_refl _)
    have hlt := Z.lt
    refine codeAny_builtin PySem.F.entry_extend_loop ?_
    rw [Around.under_plainId PySem.F.plain_extend_loop _]
    show wpAny _ A1.in1 (pyNext (.ref z) >>= _) _ _ s
    refine wpAny_bind ?_
    have turn : ∀ h' : Heap, ZSt h' z TI TO i1 i2 a b (ts.length + 1) → IsPair h' s.heap.objs.size u u2 → (∀ c o, c ≠ z → c ≠ TO → c ≠ i1 → c ≠ i2 → s.heap.get? c = some o → h'.get? c = some o) →
        wpAny (model X.prog X.w) A1.in1 (updateSeq S (·.push (.ref s.heap.objs.size)) >>= fun _ => again (.builtin "list.extend.loop" ⟨[.ref S, .ref z, .none], []⟩))
          (fun fin s' => match fin with | .done f => Rs (.ok f) s' | .again c' => c'.quiet = true ∧ codeAny (model X.prog X.w) A1 c' Rs s') (fun e s' => Rs (.error e) s') { s with heap := h' } := by
      intro h' Z' hP k
      have new : ObjOk X.prog X.w (upd H s.heap.objs.size (.tup [x, y])) h' s.heap.objs.size (.tup [x, y]) := ⟨by show 2 ≤ sizeLine; decide, [u, u2], .cons ru (.cons ru2 .nil), ⟨_, hP, rfl, _, rfl⟩⟩
      have I1 : Inv X pins σ (upd H s.heap.objs.size (.tup [x, y])) { s with heap := h' } := I.turnedNew (t' := s.toks) (ch := [z, TI, TO, i1, i2])
        (fun c o hb q => k c o (fun e => hb (by simp [e])) (fun e => hb (by simp [e])) (fun e => hb (by simp [e])) (fun e => hb (by simp [e])) q) hf (Nat.le_refl _) new
      have nST : S ≠ s.heap.objs.size := ne_of_none hL hT0
      have hL1 : upd H s.heap.objs.size (.tup [x, y]) S = some (.lst (ts.map V.ref)) := by rw [upd_ne nST]; exact hL
      obtain ⟨_, its3, n3, r3, hl3, e3⟩ := I1.lstM hL1
      rw [List.length_map] at hl3
      have I2 := I1.lset (f := (·.push (.ref s.heap.objs.size))) (its' := its3 ++ [.ref s.heap.objs.size]) (ys := (ts ++ [s.heap.objs.size]).map V.ref) (t' := s.toks) hL1 e3 (by simp)
        (by rw [List.map_append]; exact r3.append (.cons rfl .nil)) (by rw [List.length_map, List.length_append, List.length_singleton, sizeLine_eq]; omega)
      refine wpAny_bind (wpAny_updateSeq e3 rfl (wpAny_pure ⟨plainId_quiet PySem.F.plain_extend_loop _, ?_⟩) (by rw [List.size_toArray, sizeLine_eq]; omega) (by show (its3.toArray.push _).size ≤ sizeLine + 1; rw [Array.size_push, List.size_toArray, sizeLine_eq]; omega))
      have new_at : ∀ c o, c ≠ S → H c = some o → (upd (upd H s.heap.objs.size (.tup [x, y])) S (.lst ((ts ++ [s.heap.objs.size]).map V.ref))) c = some o := fun c o n e => by
        rw [upd_ne n, upd_ne (ne_of_none e hT0)]
        exact e
      have lst_at : ∀ {c : Addr} {zs : List V}, c ≠ S → SqL X.K H c zs → SqL X.K (upd (upd H s.heap.objs.size (.tup [x, y])) S (.lst ((ts ++ [s.heap.objs.size]).map V.ref))) c zs := fun {c zs} n q => by
        rcases q with (q | ⟨o, q⟩) | q
        · exact .inl (.inl (new_at _ _ n q))
        · exact .inl (.inr ⟨o, new_at _ _ n q⟩)
        · exact .inr q
      refine ih (ts ++ [s.heap.objs.size]) _ _ (by rw [List.length_append, List.length_singleton]; omega) I2 (fun c hc => ?_) ?_ (lst_at aS ha) (lst_at bS hb) upd_same ⟨fun c o e => ?_, fun j t ht => ?_⟩
      · have f := hf c hc
        refine ⟨?_, f.2⟩
        rw [upd_ne (fun e => hS (by rw [← e]; exact hc)), upd_ne (Nat.ne_of_lt (hlt c hc))]
        exact f.1
      · rw [List.length_append, List.length_singleton]
        refine Z'.at S hS (fun c o n e => (Heap.get?_update_other _ _ (Ne.symm n)).trans e) fun c o e => ?_
        by_cases n : c = S
        · rw [n]; exact ⟨_, PySem.IsL.update e3 _⟩
        · exact ⟨o, (Heap.get?_update_other _ _ (Ne.symm n)).trans e⟩
      · exact new_at c o (fun n => by rw [n, hS0] at e; cases e) (hM.keep c o e)
      · by_cases c : j < ts.length
        · rw [List.getElem?_append_left c] at ht
          obtain ⟨n0, x', y', e1, e2, e3⟩ := hM.pairs j t ht
          refine ⟨n0, x', y', e1, e2, new_at t _ (fun n => ?_) e3⟩
          rw [n, hL] at e3; cases e3
        · have hj : j = ts.length := by
            have := (List.getElem?_eq_some_iff.mp ht).1
            rw [List.length_append, List.length_singleton] at this
            omega
          rw [hj, List.getElem?_append_right (Nat.le_refl _), Nat.sub_self] at ht
          obtain rfl : s.heap.objs.size = t := Option.some.inj ht
          refine ⟨?_, x, y, by rw [hj]; exact hx, by rw [hj]; exact hy, ?_⟩
          · cases q : H0 s.heap.objs.size with
            | none => rfl
            | some o => rw [hM.keep _ _ q] at hT0; cases hT0
          · rw [upd_ne (Ne.symm nST)]; exact upd_same
    rcases Z.z with ⟨q, x0, y0, q2⟩ | ⟨T, f, oT, q, q2⟩
    · refine wpAny_pyNext_zip_item D q Z.TI q2 Z.l1 Z.l2 p1.isList p2.isList (x := u) (y := u2) (by simpa using hu) (by simpa using hu2) fun h' z' TO' l1' l2' hP hsz k => ?_
      refine turn h' ⟨.inr ⟨_, false, _, z', hP⟩, k _ _ D.TIz D.TITO D.TIi1 D.TIi2 Z.TI, ⟨_, TO'⟩, l1', l2'⟩ hP k
    · refine wpAny_pyNext_zip_item_held D q q2 Z.TI Z.l1 Z.l2 p1.isList p2.isList (x := u) (y := u2) (by simpa using hu) (by simpa using hu2) fun h' z' l1' l2' hP hsz k => ?_
      obtain ⟨oTO, eTO⟩ := Z.TO
      have kT : ∃ o, h'.get? T = some o := by
        by_cases c1 : T = z
        · rw [c1]; exact ⟨_, z'⟩
        by_cases c2 : T = i1
        · rw [c2]; obtain ⟨o, e, _⟩ := l1'; exact ⟨o, e⟩
        by_cases c3 : T = i2
        · rw [c3]; obtain ⟨o, e, _⟩ := l2'; exact ⟨o, e⟩
        exact ⟨oT, k _ _ c1 c2 c3 q2⟩
      obtain ⟨oT', eT'⟩ := kT
      exact turn h' ⟨.inr ⟨T, true, oT', z', eT'⟩, k _ _ D.TIz D.TIi1 D.TIi2 Z.TI, ⟨_, k _ _ D.TOz D.TOi1 D.TOi2 eTO⟩, l1', l2'⟩ hP fun c o c1 _ c2 c3 e => k c o c1 c2 c3 e
end
section
variable {X : Cx} {e e2 : Expr} {ta : TA} {p p2 pos pos2 : Pos}
def tLZ (K : PySem.W.Frag) (ta : TA) : TE := fun σ H Q => ta σ H fun vs H1 => ∃ a b xs ys, vs = [.ref a, .ref b] ∧ SqL K H1 a xs ∧ SqL K H1 b ys ∧ xs.length = ys.length ∧ xs.length ≤ 1000000 ∧
  ∀ H2 l ts, Made H1 H2 xs ys ts → ts.length = xs.length → H1 l = none → H2 l = some (.lst (ts.map V.ref)) → Q (.ref l) H2
theorem pe_listzip (hc : X.calm = true) (hgl : Gl X "list") (hml : X.mg "list" = none) (hgz : Gl X "zip") (hmz : X.mg "zip" = none) (ha : PA X [e, e2] ta)
    (hs : starEach [e, e2] X.env = (false, eval e X.env) :: starEach [e2] X.env := by rfl) (hpl : (backTo pos2 (starEach [e2] X.env)).any (·.1) = false := by rfl)
    (na : starEach [.Call (.Name "zip" p2) [e, e2] [] pos2] X.env = (false, eval (.Call (.Name "zip" p2) [e, e2] [] pos2) X.env) :: starEach [] X.env := by rfl) :
    PE X (.Call (.Name "list" p) [.Call (.Name "zip" p2) [e, e2] [] pos2] [] pos) (tLZ X.K ta) := by
  refine ⟨fun pins s σ H Q I h => ?_⟩
  refine Call_ (ld_blt I hgl hml boot_list (PyProof.Rows.callWith_type1 (args_cons ?_ na) na))
  refine Call_ (ld_blt I hgz hmz PyProof.Rows.boot_zip (PyProof.Rows.callWith_type1 (thn (ha.run pos2 pins s σ H _ I h) fun us s1 ⟨vs, H1, I1, r1, q1⟩ => ?_) hs hpl))
  obtain ⟨a, b, xs, ys, rfl, hqx, hqy, hl, hz, q⟩ := q1
  obtain ⟨u, rest, rfl, ru, rr⟩ : ∃ u rest, us = u :: rest ∧ RelV (.ref a) u ∧ Vals [.ref b] rest := by
    cases r1 with
    | cons r rr => exact ⟨_, _, rfl, r, rr⟩
  obtain ⟨u2, rfl, ru2⟩ := rr.one
  cases ru
  cases ru2
  obtain ⟨its, rv, p1, _⟩ := I1.list hqx
  obtain ⟨its2, rv2, p2, _⟩ := I1.list hqy
  have la : a < s1.heap.objs.size := p1.lt
  have lb : b < s1.heap.objs.size := p2.lt
  refine call_zip_2 p1.isList p2.isList fun h' hz' hTI hTO h1 h2 hsz hk => args_nil ?_
  have D : ZipApart (s1.heap.objs.size + 4) (s1.heap.objs.size + 2) (s1.heap.objs.size + 3) s1.heap.objs.size (s1.heap.objs.size + 1) a b := PySem.W.ktu_apart s1.heap.objs.size a b la lb
  have Z : ZSt h' (s1.heap.objs.size + 4) (s1.heap.objs.size + 2) (s1.heap.objs.size + 3) s1.heap.objs.size (s1.heap.objs.size + 1) a b 0 := ⟨.inl ⟨hz', _, _, hTO⟩, hTI, ⟨_, hTO⟩, h1, h2⟩
  have fp : ∀ c ∈ [s1.heap.objs.size + 4, s1.heap.objs.size + 2, s1.heap.objs.size + 3, s1.heap.objs.size, s1.heap.objs.size + 1], s1.heap.objs.size ≤ c := fun c hc => by
    simp only [List.mem_cons, List.not_mem_nil, or_false] at hc
    rcases hc with rfl | rfl | rfl | rfl | rfl <;> omega
  have I2 : Inv X pins σ H1 { s1 with heap := h' } := I1.kept (t' := s1.toks) hk
  have hlt := Z.lt
  generalize s1.heap.objs.size + 4 = z at *
  generalize s1.heap.objs.size + 2 = TI at *
  generalize s1.heap.objs.size + 3 = TO at *
  generalize s1.heap.objs.size + 1 = i2 at *
  have S0 : H1 h'.objs.size = none := I2.hok.fresh (Nat.le_refl _)
  have hSm : h'.objs.size ∉ [z, TI, TO, s1.heap.objs.size, i2] := fun m => absurd (hlt _ m) (Nat.lt_irrefl _)
  refine callType_codes (Q₁ := fun obj s₁ => obj = .ref h'.objs.size ∧ s₁ = { s1 with heap := h'.push { cls := .type "list", data := .seq #[] } }) PySem.F.called_list (PySem.F.typeCall_list_1 _) PySem.F.entry_list_init
    (code_list_new _ ⟨rfl, rfl⟩) fun obj s₁ h₁ => ?_
  obtain ⟨rfl, rfl⟩ := h₁
  have hS : (h'.push { cls := .type "list", data := .seq #[] }).get? h'.objs.size = some { cls := .type "list", data := .seq #[] } := Heap.get?_push_size _ rfl
  refine ⟨⟨_, hS, rfl⟩, PySem.F.args_list_init_2 _ _, ?_⟩
  have I3 : Inv X pins σ (upd H1 h'.objs.size (.lst [])) { s1 with heap := h'.push { cls := .type "list", data := .seq #[] } } := I2.lnew (its := []) (t' := s1.toks) .nil (Nat.zero_le _)
  have Z3 : ZSt (h'.push { cls := .type "list", data := .seq #[] }) z TI TO s1.heap.objs.size i2 a b 0 := Z.at h'.objs.size hSm (fun c o _ e => Heap.get?_push_of_some _ e) fun c o e => ⟨o, Heap.get?_push_of_some _ e⟩
  show wpAny _ _ (do let old ← Builtin.List.listItems (.ref h'.objs.size); Builtin.List.listUpdate (.ref h'.objs.size) (fun _ => #[]); letGo old.toList.reverse; Builtin.List.listExtendWith (.ref h'.objs.size) (.ref z) .none) _ _ _
  refine wpAny_bind ?_
  unfold Builtin.List.listItems
  refine wpAny_bind (wpAny_seqItems hS rfl (wpAny_pure ?_))
  show wpAny _ _ (updateSeq h'.objs.size (fun _ => #[]) >>= fun _ => letGo (#[] : Array Value).toList.reverse >>= fun _ => Builtin.List.listExtendWith (.ref h'.objs.size) (.ref z) .none) _ _ _
  refine wpAny_bind (wpAny_updateSeq hS rfl ?_)
  have I4 := I3.lset (f := fun _ => #[]) (its := []) (its' := []) (ys := []) (t' := s1.toks) upd_same hS rfl .nil (Nat.zero_le _)
  rw [upd_upd] at I4
  have Z4 := Z3.at (h' := (h'.push { cls := .type "list", data := .seq #[] }).update h'.objs.size (Obj.mapSeq fun _ => #[])) h'.objs.size hSm (fun c o n e => (Heap.get?_update_other _ _ (Ne.symm n)).trans e) fun c o e => by
    by_cases n : c = h'.objs.size
    · rw [n]; exact ⟨_, PySem.IsL.update hS _⟩
    · exact ⟨o, (Heap.get?_update_other _ _ (Ne.symm n)).trans e⟩
  refine wpAny_bind (wpAny_letGo ?_)
  have hne : h'.objs.size ≠ z := fun e => hSm (by simp [e])
  have z4 := (Heap.get?_update_other (h'.push { cls := .type "list", data := .seq #[] }) (Obj.mapSeq fun _ => #[]) hne).trans (Heap.get?_push_of_some { cls := .type "list", data := .seq #[] } hz')
  have fin : ∀ s' : Shared, Inv X pins σ (upd H1 h'.objs.size (.lst [])) s' → ZSt s'.heap z TI TO s1.heap.objs.size i2 a b 0 →
      codeAny (model X.prog X.w) X.A.in1 (.builtin "list.extend.loop" ⟨[.ref h'.objs.size, .ref z, .none], []⟩) (wants (fun r s₂ => r = .none ∧ EP X pins σ Q (.ref h'.objs.size) s₂) X.xe) s' := fun s' J Z' => by
    have nl : ∀ {c : Addr} {zs : List V}, c ≠ h'.objs.size → SqL X.K H1 c zs → SqL X.K (upd H1 h'.objs.size (.lst [])) c zs := fun {c zs} n q => by
      rcases q with (q | ⟨o, q⟩) | q
      · exact .inl (.inl (by rw [upd_ne n]; exact q))
      · exact .inl (.inr ⟨o, by rw [upd_ne n]; exact q⟩)
      · exact .inr q
    have na : a ≠ h'.objs.size := Nat.ne_of_lt (Nat.lt_of_lt_of_le la (by omega))
    have nb : b ≠ h'.objs.size := Nat.ne_of_lt (Nat.lt_of_lt_of_le lb (by omega))
    refine zip_loop (A1 := X.A.in1) (H0 := H1) D (I2.ok.hd hc) hSm S0 na nb hl hz (fun H2 ts s'' J2 M hts hL => ⟨rfl, .ref h'.objs.size, H2, J2, rfl, q H2 _ ts M hts S0 hL⟩) xs.length [] _ s' (Nat.zero_add _) J (fun c hcm => ?_) Z' (nl na hqx) (nl nb hqy) upd_same
      ⟨fun c o e => by rw [upd_ne (ne_of_none e S0)]; exact e, fun j t e => nomatch e⟩
    have hge := fp c hcm
    have f := I1.fpOk (H' := upd H1 h'.objs.size (.lst [])) hge (by
      rw [upd_ne (Nat.ne_of_lt (hlt c hcm))]
      exact I1.hok.fresh hge)
    exact f
  have ty : ({ s1 with heap := (h'.push { cls := .type "list", data := .seq #[] }).update h'.objs.size (Obj.mapSeq fun _ => #[]) } : Shared).TypeIs (.ref z) "zip" := ⟨_, z4, rfl⟩
  unfold Builtin.List.listExtendWith
  refine wpAny_bind (wpAny_typeOf ty ?_)
  have g1 : Builtin.List.listSameRef (.ref h'.objs.size) (.ref z) = false := by simp [Builtin.List.listSameRef, hne]
  have g2 : (Value.type "zip" == Value.type "list") = false := by decide
  have g3 : (Value.type "zip" == Value.type "tuple") = false := by decide
  simp only [g1, g2, g3, Bool.or_false, Bool.false_eq_true, if_false]
  refine wpAny_bind (wpAny_pyIter_zip z4 ?_)
  refine wpAny_bind (wpAny_holding ?_)
  unfold Builtin.List.listLengthHint
  refine wpAny_bind (wpAny_specialOf ty zip_no_len ?_)
  show wpAny _ _ (specialOf (Value.ref z) (Str.ofString "__length_hint__") >>= _) _ _ _
  refine wpAny_bind (wpAny_specialOf ty zip_no_hint ?_)
  refine wpAny_pure ?_
  obtain ⟨_, its5, k5, r5, hl5, e5⟩ := I4.lstM upd_same
  cases r5
  refine wpAny_ite_split (fun _ => ?_) (fun _ => wpAny_pure ⟨plainId_quiet PySem.F.plain_extend_loop _, fin _ I4 Z4⟩)
  refine wpAny_bind (wpAny_rule ?_)
  refine wpAny_bind ?_
  show wpAny _ _ (updateSeq h'.objs.size (·.push .none) >>= fun _ => updateSeq h'.objs.size (·.pop)) _ _ _
  refine wpAny_bind (wpAny_updateSeq e5 rfl ?_)
  have I5 := I4.lset (f := (·.push Value.none)) (its' := [Value.none]) (ys := [.non]) (t' := s1.toks) upd_same e5 (by simp) (.cons rfl .nil) (by rw [List.length_singleton, sizeLine_eq]; decide)
  obtain ⟨_, its6, k6, r6, hl6, e6⟩ := I5.lstM upd_same
  obtain ⟨u6, rfl, ru6⟩ := r6.one
  refine wpAny_updateSeq e6 rfl ?_ (by show 1 ≤ sizeLine; rw [sizeLine_eq]; decide) (by show 0 ≤ sizeLine + 1; exact Nat.zero_le _)
  have I6 := I5.lset (f := (·.pop)) (its := [u6]) (its' := []) (ys := []) (t' := s1.toks) upd_same e6 (by rfl) .nil (Nat.zero_le _)
  rw [upd_upd, upd_upd] at I6
  have later : ∀ {h : Heap} {i : Nat} {o : Obj} (f : Array Value → Array Value), ZSt h z TI TO s1.heap.objs.size i2 a b i → h.get? h'.objs.size = some o → (∃ o', (h.update h'.objs.size (Obj.mapSeq f)).get? h'.objs.size = some o') → ZSt (h.update h'.objs.size (Obj.mapSeq f)) z TI TO s1.heap.objs.size i2 a b i :=
    fun {h i o} f q _ e' => q.at h'.objs.size hSm (fun c o n e => (Heap.get?_update_other _ _ (Ne.symm n)).trans e) fun c o e => by
      by_cases n : c = h'.objs.size
      · rw [n]; exact e'
      · exact ⟨o, (Heap.get?_update_other _ _ (Ne.symm n)).trans e⟩
  refine wpAny_pure ⟨plainId_quiet PySem.F.plain_extend_loop _, fin _ I6 ?_⟩
  exact later _ (later _ Z4 e5 ⟨_, PySem.IsL.update e5 _⟩) e6 ⟨_, PySem.IsL.update e6 _⟩
end
end LZ

namespace K11
open PySem PySem.Spec PyProof.Rows L2
def top (i : Nat) : Stmt := PySem.Challenge.pw_flatsheaves_k11_machine.main.body.getD i (.Pass ⟨0, 0, 0, 0⟩)
abbrev s_vectors_of : Stmt := top 4
theorem sc_vectors_of : FnScope ["kind", "values", "vectors", "waiting", "part", "lanes", "row", "_", "second", "first", "value"] ["kind", "values"] (defScope s_vectors_of) := ⟨rfl, rfl, rfl, by decide +kernel, rfl, by decide +kernel, by decide +kernel⟩
abbrev s_values_of : Stmt := top 5
theorem sc_values_of : FnScope ["kind", "vectors", "rest", "done", "form", "first", "second"] ["kind", "vectors"] (defScope s_values_of) := ⟨rfl, rfl, rfl, by decide +kernel, rfl, by decide +kernel, by decide +kernel⟩
abbrev s_forms_of : Stmt := top 6
theorem sc_forms_of : FnScope ["kind", "forms", "waiting", "part"] ["kind"] (defScope s_forms_of) := ⟨rfl, rfl, rfl, by decide +kernel, rfl, by decide +kernel, by decide +kernel⟩
abbrev s_cut : Stmt := top 7
theorem sc_cut : FnScope ["values", "lengths", "rows", "start", "length"] ["values", "lengths"] (defScope s_cut) := ⟨rfl, rfl, rfl, by decide +kernel, rfl, by decide +kernel, by decide +kernel⟩
abbrev s_wrapped : Stmt := top 11
theorem sc_wrapped : FnScope ["n"] ["n"] (defScope s_wrapped) := ⟨rfl, rfl, rfl, by decide +kernel, rfl, by decide +kernel, by decide +kernel⟩
abbrev s_added : Stmt := top 12
theorem sc_added : FnScope ["a", "b"] ["a", "b"] (defScope s_added) := ⟨rfl, rfl, rfl, by decide +kernel, rfl, by decide +kernel, by decide +kernel⟩
abbrev s_subtracted : Stmt := top 13
theorem sc_subtracted : FnScope ["a", "b"] ["a", "b"] (defScope s_subtracted) := ⟨rfl, rfl, rfl, by decide +kernel, rfl, by decide +kernel, by decide +kernel⟩
abbrev s_multiplied : Stmt := top 14
theorem sc_multiplied : FnScope ["a", "b"] ["a", "b"] (defScope s_multiplied) := ⟨rfl, rfl, rfl, by decide +kernel, rfl, by decide +kernel, by decide +kernel⟩
abbrev s_quotient : Stmt := top 15
theorem sc_quotient : FnScope ["a", "b"] ["a", "b"] (defScope s_quotient) := ⟨rfl, rfl, rfl, by decide +kernel, rfl, by decide +kernel, by decide +kernel⟩
abbrev s_remainder : Stmt := top 16
theorem sc_remainder : FnScope ["a", "b"] ["a", "b"] (defScope s_remainder) := ⟨rfl, rfl, rfl, by decide +kernel, rfl, by decide +kernel, by decide +kernel⟩
abbrev s_smaller : Stmt := top 17
theorem sc_smaller : FnScope ["a", "b"] ["a", "b"] (defScope s_smaller) := ⟨rfl, rfl, rfl, by decide +kernel, rfl, by decide +kernel, by decide +kernel⟩
abbrev s_larger : Stmt := top 18
theorem sc_larger : FnScope ["a", "b"] ["a", "b"] (defScope s_larger) := ⟨rfl, rfl, rfl, by decide +kernel, rfl, by decide +kernel, by decide +kernel⟩
abbrev s_is_less : Stmt := top 19
theorem sc_is_less : FnScope ["a", "b"] ["a", "b"] (defScope s_is_less) := ⟨rfl, rfl, rfl, by decide +kernel, rfl, by decide +kernel, by decide +kernel⟩
abbrev s_is_equal : Stmt := top 20
theorem sc_is_equal : FnScope ["a", "b"] ["a", "b"] (defScope s_is_equal) := ⟨rfl, rfl, rfl, by decide +kernel, rfl, by decide +kernel, by decide +kernel⟩
abbrev s_calculate : Stmt := top 22
theorem sc_calculate : FnScope ["sign", "a", "b", "operation"] ["sign", "a", "b"] (defScope s_calculate) := ⟨rfl, rfl, rfl, by decide +kernel, rfl, by decide +kernel, by decide +kernel⟩
abbrev s_execute : Stmt := top 25
theorem sc_execute : FnScope ["name", "extra", "inputs", "instruction"] ["name", "extra", "inputs"] (defScope s_execute) := ⟨rfl, rfl, rfl, by decide +kernel, rfl, by decide +kernel, by decide +kernel⟩
abbrev s_starts_of : Stmt := top 26
theorem sc_starts_of : FnScope ["lengths", "starts", "start", "length"] ["lengths"] (defScope s_starts_of) := ⟨rfl, rfl, rfl, by decide +kernel, rfl, by decide +kernel, by decide +kernel⟩
abbrev s_fill : Stmt := top 27
theorem sc_fill : FnScope ["extra", "inputs", "_"] ["extra", "inputs"] (defScope s_fill) := ⟨rfl, rfl, rfl, by decide +kernel, rfl, by decide +kernel, by decide +kernel⟩
abbrev s_calc : Stmt := top 28
theorem sc_calc : FnScope ["extra", "inputs", "a", "b"] ["extra", "inputs"] (defScope s_calc) := ⟨rfl, rfl, rfl, by decide +kernel, rfl, by decide +kernel, by decide +kernel⟩
abbrev s_take : Stmt := top 29
theorem sc_take : FnScope ["_", "inputs", "vector", "indexes", "index"] ["_", "inputs"] (defScope s_take) := ⟨rfl, rfl, rfl, by decide +kernel, rfl, by decide +kernel, by decide +kernel⟩
abbrev s_pick : Stmt := top 30
theorem sc_pick : FnScope ["_", "inputs", "lengths", "segments", "starts", "at", "index"] ["_", "inputs"] (defScope s_pick) := ⟨rfl, rfl, rfl, by decide +kernel, rfl, by decide +kernel, by decide +kernel⟩
abbrev s_repeat : Stmt := top 31
theorem sc_repeat : FnScope ["_", "inputs", "at", "length"] ["_", "inputs"] (defScope s_repeat) := ⟨rfl, rfl, rfl, by decide +kernel, rfl, by decide +kernel, by decide +kernel⟩
abbrev s_count : Stmt := top 32
theorem sc_count : FnScope ["_", "inputs", "length", "k"] ["_", "inputs"] (defScope s_count) := ⟨rfl, rfl, rfl, by decide +kernel, rfl, by decide +kernel, by decide +kernel⟩
abbrev s_where : Stmt := top 33
theorem sc_where : FnScope ["extra", "inputs", "index", "item"] ["extra", "inputs"] (defScope s_where) := ⟨rfl, rfl, rfl, by decide +kernel, rfl, by decide +kernel, by decide +kernel⟩
abbrev s_weave : Stmt := top 34
theorem sc_weave : FnScope ["_", "inputs", "marked", "item", "others", "numbers"] ["_", "inputs"] (defScope s_weave) := ⟨rfl, rfl, rfl, by decide +kernel, rfl, by decide +kernel, by decide +kernel⟩
abbrev s_join : Stmt := top 35
theorem sc_join : FnScope ["_", "inputs"] ["_", "inputs"] (defScope s_join) := ⟨rfl, rfl, rfl, by decide +kernel, rfl, by decide +kernel, by decide +kernel⟩
abbrev s_sums : Stmt := top 36
theorem sc_sums : FnScope ["_", "inputs", "lengths", "vector", "starts", "start", "length"] ["_", "inputs"] (defScope s_sums) := ⟨rfl, rfl, rfl, by decide +kernel, rfl, by decide +kernel, by decide +kernel⟩
abbrev s_zip_segments : Stmt := top 37
theorem sc_zip_segments : FnScope ["_", "inputs", "lengths", "others", "behind", "indexes", "start", "length", "other_start", "other"] ["_", "inputs"] (defScope s_zip_segments) := ⟨rfl, rfl, rfl, by decide +kernel, rfl, by decide +kernel, by decide +kernel⟩
abbrev s_place : Stmt := top 38
theorem sc_place : FnScope ["_", "inputs", "lengths", "places", "indexes", "start", "length", "at"] ["_", "inputs"] (defScope s_place) := ⟨rfl, rfl, rfl, by decide +kernel, rfl, by decide +kernel, by decide +kernel⟩
abbrev s_need_range : Stmt := top 39
theorem sc_need_range : FnScope ["_", "inputs", "item"] ["_", "inputs"] (defScope s_need_range) := ⟨rfl, rfl, rfl, by decide +kernel, rfl, by decide +kernel, by decide +kernel⟩
abbrev s_need_same : Stmt := top 40
theorem sc_need_same : FnScope ["_", "inputs"] ["_", "inputs"] (defScope s_need_same) := ⟨rfl, rfl, rfl, by decide +kernel, rfl, by decide +kernel, by decide +kernel⟩
abbrev s_flags : Stmt := top 41
theorem sc_flags : FnScope ["_", "inputs", "item"] ["_", "inputs"] (defScope s_flags) := ⟨rfl, rfl, rfl, by decide +kernel, rfl, by decide +kernel, by decide +kernel⟩
abbrev s_run : Stmt := top 45
theorem sc_run : FnScope ["blocks", "name", "values", "machine", "results"] ["blocks", "name", "values"] (defScope s_run) := ⟨rfl, rfl, rfl, by decide +kernel, rfl, by decide +kernel, by decide +kernel⟩
abbrev s_law_state : Stmt := top 49
theorem sc_law_state : FnScope ["script", "seed", "cell"] ["script"] (defScope s_law_state) := ⟨rfl, rfl, rfl, by decide +kernel, rfl, by decide +kernel, by decide +kernel⟩
abbrev s_law_draw : Stmt := top 50
theorem sc_law_draw : FnScope ["state", "many", "cells", "value", "mixed"] ["state", "many"] (defScope s_law_draw) := ⟨rfl, rfl, rfl, by decide +kernel, rfl, by decide +kernel, by decide +kernel⟩
abbrev s_law_pick : Stmt := top 51
theorem sc_law_pick : FnScope ["state", "row"] ["state", "row"] (defScope s_law_pick) := ⟨rfl, rfl, rfl, by decide +kernel, rfl, by decide +kernel, by decide +kernel⟩
abbrev s_law_number : Stmt := top 52
theorem sc_law_number : FnScope ["state", "edges"] ["state"] (defScope s_law_number) := ⟨rfl, rfl, rfl, by decide +kernel, rfl, by decide +kernel, by decide +kernel⟩
abbrev s_law_code : Stmt := top 53
theorem sc_law_code : FnScope ["state", "many", "code", "k", "safe", "out", "name", "first", "second", "again"] ["state", "many"] (defScope s_law_code) := ⟨rfl, rfl, rfl, by decide +kernel, rfl, by decide +kernel, by decide +kernel⟩
abbrev s_law_blocks : Stmt := top 54
theorem sc_law_blocks : FnScope ["state", "code", "safe", "results", "pair", "main", "inner", "other", "number", "call", "part"] ["state"] (defScope s_law_blocks) := ⟨rfl, rfl, rfl, by decide +kernel, rfl, by decide +kernel, by decide +kernel⟩
abbrev s_law_wrap : Stmt := top 55
theorem sc_law_wrap : FnScope ["n"] ["n"] (defScope s_law_wrap) := ⟨rfl, rfl, rfl, by decide +kernel, rfl, by decide +kernel, by decide +kernel⟩
abbrev s_law_calc : Stmt := top 56
theorem sc_law_calc : FnScope ["sign", "a", "b"] ["sign", "a", "b"] (defScope s_law_calc) := ⟨rfl, rfl, rfl, by decide +kernel, rfl, by decide +kernel, by decide +kernel⟩
abbrev s_law_execute : Stmt := top 57
theorem sc_law_execute : FnScope ["name", "extra", "given", "first", "out", "k", "item", "n"] ["name", "extra", "given"] (defScope s_law_execute) := ⟨rfl, rfl, rfl, by decide +kernel, rfl, by decide +kernel, by decide +kernel⟩
abbrev s_law_block : Stmt := top 58
theorem sc_law_block : FnScope ["blocks", "block", "vectors", "count_v", "values", "k", "name", "extra", "inputs", "outputs", "given", "out", "row"] ["blocks", "block", "vectors", "count_v"] (defScope s_law_block) := ⟨rfl, rfl, rfl, by decide +kernel, rfl, by decide +kernel, by decide +kernel⟩
abbrev s_law : Stmt := top 59
theorem sc_law : FnScope ["script", "state", "blocks", "values", "count_v", "due", "lanes", "before", "told", "k", "v"] ["script"] (defScope s_law) := ⟨rfl, rfl, rfl, by decide +kernel, rfl, by decide +kernel, by decide +kernel⟩
/-! ### what stands where -/
structure DefAt (K : PySem.W.Frag) (mg : Str → Option Value) (x : Str) (st : Stmt) (ps : List Str) (f : Addr × FuncData) : Prop where
  F : Fun K x x st f.1 f.2
  g : mg x = some (.ref f.1)
  b : Binds K f.2 ps []
structure Ad where
  vectors_of : Addr × FuncData
  values_of : Addr × FuncData
  forms_of : Addr × FuncData
  cut : Addr × FuncData
  wrapped : Addr × FuncData
  added : Addr × FuncData
  subtracted : Addr × FuncData
  multiplied : Addr × FuncData
  quotient : Addr × FuncData
  remainder : Addr × FuncData
  smaller : Addr × FuncData
  larger : Addr × FuncData
  is_less : Addr × FuncData
  is_equal : Addr × FuncData
  calculate : Addr × FuncData
  execute : Addr × FuncData
  starts_of : Addr × FuncData
  fill : Addr × FuncData
  calc_ : Addr × FuncData
  take_ : Addr × FuncData
  pick : Addr × FuncData
  repeat_ : Addr × FuncData
  count_ : Addr × FuncData
  where_ : Addr × FuncData
  weave : Addr × FuncData
  join_ : Addr × FuncData
  sums : Addr × FuncData
  zip_segments : Addr × FuncData
  place : Addr × FuncData
  need_range : Addr × FuncData
  need_same : Addr × FuncData
  flags : Addr × FuncData
  run : Addr × FuncData
  law_state : Addr × FuncData
  law_draw : Addr × FuncData
  law_pick : Addr × FuncData
  law_number : Addr × FuncData
  law_code : Addr × FuncData
  law_blocks : Addr × FuncData
  law_wrap : Addr × FuncData
  law_calc : Addr × FuncData
  law_execute : Addr × FuncData
  law_block : Addr × FuncData
  law : Addr × FuncData
  FlatError : Addr
  TrapError : Addr
  OPS : Addr
  INS : Addr
structure Txt (w : World) (K : PySem.W.Frag) (mg : Str → Option Value) (a : Ad) : Prop where
  vectors_of : DefAt K mg "vectors_of" s_vectors_of ["kind", "values"] a.vectors_of
  values_of : DefAt K mg "values_of" s_values_of ["kind", "vectors"] a.values_of
  forms_of : DefAt K mg "forms_of" s_forms_of ["kind"] a.forms_of
  cut : DefAt K mg "cut" s_cut ["values", "lengths"] a.cut
  wrapped : DefAt K mg "wrapped" s_wrapped ["n"] a.wrapped
  added : DefAt K mg "added" s_added ["a", "b"] a.added
  subtracted : DefAt K mg "subtracted" s_subtracted ["a", "b"] a.subtracted
  multiplied : DefAt K mg "multiplied" s_multiplied ["a", "b"] a.multiplied
  quotient : DefAt K mg "quotient" s_quotient ["a", "b"] a.quotient
  remainder : DefAt K mg "remainder" s_remainder ["a", "b"] a.remainder
  smaller : DefAt K mg "smaller" s_smaller ["a", "b"] a.smaller
  larger : DefAt K mg "larger" s_larger ["a", "b"] a.larger
  is_less : DefAt K mg "is_less" s_is_less ["a", "b"] a.is_less
  is_equal : DefAt K mg "is_equal" s_is_equal ["a", "b"] a.is_equal
  calculate : DefAt K mg "calculate" s_calculate ["sign", "a", "b"] a.calculate
  execute : DefAt K mg "execute" s_execute ["name", "extra", "inputs"] a.execute
  starts_of : DefAt K mg "starts_of" s_starts_of ["lengths"] a.starts_of
  fill : DefAt K mg "fill" s_fill ["extra", "inputs"] a.fill
  calc_ : DefAt K mg "calc" s_calc ["extra", "inputs"] a.calc_
  take_ : DefAt K mg "take" s_take ["_", "inputs"] a.take_
  pick : DefAt K mg "pick" s_pick ["_", "inputs"] a.pick
  repeat_ : DefAt K mg "repeat" s_repeat ["_", "inputs"] a.repeat_
  count_ : DefAt K mg "count" s_count ["_", "inputs"] a.count_
  where_ : DefAt K mg "where" s_where ["extra", "inputs"] a.where_
  weave : DefAt K mg "weave" s_weave ["_", "inputs"] a.weave
  join_ : DefAt K mg "join" s_join ["_", "inputs"] a.join_
  sums : DefAt K mg "sums" s_sums ["_", "inputs"] a.sums
  zip_segments : DefAt K mg "zip_segments" s_zip_segments ["_", "inputs"] a.zip_segments
  place : DefAt K mg "place" s_place ["_", "inputs"] a.place
  need_range : DefAt K mg "need_range" s_need_range ["_", "inputs"] a.need_range
  need_same : DefAt K mg "need_same" s_need_same ["_", "inputs"] a.need_same
  flags : DefAt K mg "flags" s_flags ["_", "inputs"] a.flags
  run : DefAt K mg "run" s_run ["blocks", "name", "values"] a.run
  law_state : DefAt K mg "_law_state" s_law_state ["script"] a.law_state
  law_draw : DefAt K mg "_law_draw" s_law_draw ["state", "many"] a.law_draw
  law_pick : DefAt K mg "_law_pick" s_law_pick ["state", "row"] a.law_pick
  law_number : DefAt K mg "_law_number" s_law_number ["state"] a.law_number
  law_code : DefAt K mg "_law_code" s_law_code ["state", "many"] a.law_code
  law_blocks : DefAt K mg "_law_blocks" s_law_blocks ["state"] a.law_blocks
  law_wrap : DefAt K mg "_law_wrap" s_law_wrap ["n"] a.law_wrap
  law_calc : DefAt K mg "_law_calc" s_law_calc ["sign", "a", "b"] a.law_calc
  law_execute : DefAt K mg "_law_execute" s_law_execute ["name", "extra", "given"] a.law_execute
  law_block : DefAt K mg "_law_block" s_law_block ["blocks", "block", "vectors", "count_v"] a.law_block
  law : DefAt K mg "law" s_law ["script"] a.law
  reversed : mg "reversed" = none
  len : mg "len" = none
  abs : mg "abs" = none
  int : mg "int" = none
  min : mg "min" = none
  max : mg "max" = none
  isinstance : mg "isinstance" = none
  range : mg "range" = none
  zip : mg "zip" = none
  enumerate : mg "enumerate" = none
  list : mg "list" = none
  sum : mg "sum" = none
  repr : mg "repr" = none
  gFlatError : mg "FlatError" = some (.ref a.FlatError)
  gTrapError : mg "TrapError" = some (.ref a.TrapError)
  xT : PySem.W.excIn K a.TrapError [.type "ValueError", .type "Exception", .type "BaseException", .type "object"] "ValueError.__new__" = true
  kT : PySem.W.keepIn K (.ref a.TrapError) = true
  bT : PySem.W.subIn K (.ref a.TrapError) (.type "BaseException") = some true
  tT : PySem.W.typeIn K (.ref a.TrapError) = some (.type "type")
  iT : PySem.W.isClsIn K a.TrapError = true
  sT : PySem.W.subIn K (.ref a.TrapError) (.ref a.TrapError) = some true
  half : ∃ u, mg "HALF" = some u ∧ RelV (.int 2147483648) u
  span : ∃ u, mg "SPAN" = some u ∧ RelV (.int 4294967296) u
  limit : ∃ u, mg "RANGE_LIMIT" = some u ∧ RelV (.int 1000) u
  gOP : mg "OPERATIONS" = some (.ref a.OPS)
  gIN : mg "INSTRUCTIONS" = some (.ref a.INS)
  o_added : KDct K w a.OPS "+" (.ref a.added.1)
  o_subtracted : KDct K w a.OPS "-" (.ref a.subtracted.1)
  o_multiplied : KDct K w a.OPS "*" (.ref a.multiplied.1)
  o_quotient : KDct K w a.OPS "/" (.ref a.quotient.1)
  o_remainder : KDct K w a.OPS "mod" (.ref a.remainder.1)
  o_smaller : KDct K w a.OPS "min" (.ref a.smaller.1)
  o_larger : KDct K w a.OPS "max" (.ref a.larger.1)
  o_is_less : KDct K w a.OPS "<" (.ref a.is_less.1)
  o_is_equal : KDct K w a.OPS "=" (.ref a.is_equal.1)
  n_fill : KDct K w a.INS "fill" (.ref a.fill.1)
  n_calc : KDct K w a.INS "calc" (.ref a.calc_.1)
  n_take : KDct K w a.INS "take" (.ref a.take_.1)
  n_pick : KDct K w a.INS "pick" (.ref a.pick.1)
  n_repeat : KDct K w a.INS "repeat" (.ref a.repeat_.1)
  n_count : KDct K w a.INS "count" (.ref a.count_.1)
  n_where : KDct K w a.INS "where" (.ref a.where_.1)
  n_weave : KDct K w a.INS "weave" (.ref a.weave.1)
  n_join : KDct K w a.INS "join" (.ref a.join_.1)
  n_sums : KDct K w a.INS "sums" (.ref a.sums.1)
  n_zip : KDct K w a.INS "zip" (.ref a.zip_segments.1)
  n_place : KDct K w a.INS "place" (.ref a.place.1)
  n_range : KDct K w a.INS "range" (.ref a.need_range.1)
  n_same : KDct K w a.INS "same" (.ref a.need_same.1)
  n_flags : KDct K w a.INS "flags" (.ref a.flags.1)
/-! ### numbers -/
def InR (n : Int) : Prop := -2147483648 ≤ n ∧ n ≤ 2147483647
def wrap (n : Int) : Int := (n + 2147483648) % 4294967296 - 2147483648
theorem wrap_in (n : Int) : InR (wrap n) := by unfold wrap InR; omega
theorem wrap_id {n : Int} (h : InR n) : wrap n = n := by unfold wrap; unfold InR at h; omega
theorem pe_gv {X : Cx} {x : Str} {v : V} {pos : Pos} (hg : Gl X x) (h : ∃ u, X.mg x = some u ∧ RelV v u) (hd : (x == ("__debug__" : Str)) = false := by decide) : PE X (.Name x pos) (tC v) := by
  obtain ⟨u, a, b⟩ := h
  exact pe_glob hg a b hd
theorem exm_of {K : PySem.W.Frag} {S : Addr} (h1 : PySem.W.subIn K (.ref S) (.type "BaseException") = some true) (h2 : PySem.W.isClsIn K S = true) (h3 : PySem.W.typeIn K (.ref S) = some (.type "type")) (h4 : PySem.W.subIn K (.ref S) (.ref S) = some true) :
    PySem.W.exmOne K (.ref S) (.ref S) = some true := by
  have e1 : (PySem.W.subIn K (.ref S) (.type "BaseException") == some true) = true := by rw [h1] <;> rfl
  have e2 : ((PySem.W.clsIn K S).isSome && PySem.W.typeIn K (.ref S) == some (.type "type")) = true := by
    have h2' : (PySem.W.clsIn K S).isSome = true := h2
    rw [h2', h3] <;> rfl
  show (if (PySem.W.subIn K (.ref S) (.type "BaseException") == some true) = true then (if ((PySem.W.clsIn K S).isSome && PySem.W.typeIn K (.ref S) == some (.type "type")) = true then PySem.W.subIn K (.ref S) (.ref S) else none) else none) = some true
  rw [if_pos e1, if_pos e2]
  exact h4
/-- // by any divisor but 0 of less than 9000 bits -/
def CDivX (_ j : Int) : Prop := j ≠ 0 ∧ j.natAbs.log2 < 9000
theorem op_fdivX {X : Cx} : OpR X (binaryOp .FloorDiv) (rI CDivX fun i j => .int (i.fdiv j)) := opI fun _ _ _ _ _ _ _ hc q => floordiv_int hc.1 q (.inl (PyProof.noPylong_of_log2 hc.2))
theorem divx_ok {i j : Int} (h0 : j ≠ 0) (h : InR j) : CDivX i j := ⟨h0, Nat.lt_of_lt_of_le (PySem.Flt.log2_lt_of (k := 32) (by decide) (by unfold InR at h; omega)) (by decide)⟩
section
variable {P : Program} {w : World} {K : PySem.W.Frag} {mg : Str → Option Value} {base : Heap} {a : Ad}
/-! ### the program -/
def spWrapped : Sp := fun vs H Q _ => ∃ n : Int, vs = [.int n] ∧ Q (.int (wrap n)) H
theorem ok_wrapped (T : Txt w K mg a) : FnOk P w K mg base CX0 1 a.wrapped.1 a.wrapped.2 ["n"] spWrapped := by
  refine T.wrapped.F.ok sc_wrapped (fun vs H Q E h => ?_) (fun cdv A outer s H vs Q E hr h => ?_)
  · obtain ⟨n, rfl, _⟩ := h
    rfl
  obtain ⟨n, rfl, q⟩ := h
  refine ⟨_, (pss_one (ps_ret (pe_op op_sub (pe_op op_mod (pe_op op_add (pv 0) (pe_gv rfl T.half)) (pe_gv rfl T.span)) (pe_gv rfl T.half)))), ?_⟩
  refine ⟨_, rfl, _, _, rfl, rfl, _, _, rfl, rfl, (by show (0 : Int) < 4294967296; decide), _, _, rfl, rfl, q⟩
/-- what a sign means; none: it traps -/
def opI (s : Nat) (i j : Int) : Option Int := match s with
  | 0 => some (i + j)
  | 1 => some (i - j)
  | 2 => some (i * j)
  | 3 => if j = 0 then none else some (i.fdiv j)
  | 4 => if j = 0 then none else some (i.fmod j)
  | 5 => some (if j < i then j else i)
  | 6 => some (if j > i then j else i)
  | 7 => some (if i < j then 1 else 0)
  | _ => some (if i = j then 1 else 0)
def spOp (C : Addr) (s : Nat) : Sp := fun vs H Q E => ∃ i j : Int, vs = [.int i, .int j] ∧ InR i ∧ InR j ∧ (∀ n, opI s i j = some n → Q (.int n) H) ∧ (opI s i j = none → E (.ref C) none H)
theorem ok_added (T : Txt w K mg a) : FnOk P w K mg base (L2.CX P w) 1 a.added.1 a.added.2 ["a", "b"] (spOp a.TrapError 0) := by
  refine T.added.F.okX sc_added (fun vs H Q E h => ?_) (fun cdv A outer s H vs Q E hr h => ?_)
  · obtain ⟨i, j, rfl, _⟩ := h
    rfl
  obtain ⟨i, j, rfl, hi, hj, q, e⟩ := h
  refine ⟨_, (pss_one (ps_ret (pe_op op_add (pv 0) (pv 1)))), ?_⟩
  exact ⟨_, rfl, _, rfl, _, _, rfl, rfl, q _ rfl⟩
theorem ok_subtracted (T : Txt w K mg a) : FnOk P w K mg base (L2.CX P w) 1 a.subtracted.1 a.subtracted.2 ["a", "b"] (spOp a.TrapError 1) := by
  refine T.subtracted.F.okX sc_subtracted (fun vs H Q E h => ?_) (fun cdv A outer s H vs Q E hr h => ?_)
  · obtain ⟨i, j, rfl, _⟩ := h
    rfl
  obtain ⟨i, j, rfl, hi, hj, q, e⟩ := h
  refine ⟨_, (pss_one (ps_ret (pe_op op_sub (pv 0) (pv 1)))), ?_⟩
  exact ⟨_, rfl, _, rfl, _, _, rfl, rfl, q _ rfl⟩
theorem ok_multiplied (T : Txt w K mg a) : FnOk P w K mg base (L2.CX P w) 1 a.multiplied.1 a.multiplied.2 ["a", "b"] (spOp a.TrapError 2) := by
  refine T.multiplied.F.okX sc_multiplied (fun vs H Q E h => ?_) (fun cdv A outer s H vs Q E hr h => ?_)
  · obtain ⟨i, j, rfl, _⟩ := h
    rfl
  obtain ⟨i, j, rfl, hi, hj, q, e⟩ := h
  refine ⟨_, (pss_one (ps_ret (pe_op op_mul (pv 0) (pv 1)))), ?_⟩
  exact ⟨_, rfl, _, rfl, _, _, rfl, rfl, .inl (by unfold InR at hi; omega), q _ rfl⟩
theorem ok_quotient (T : Txt w K mg a) : FnOk P w K mg base (L2.CX P w) 1 a.quotient.1 a.quotient.2 ["a", "b"] (spOp a.TrapError 3) := by
  refine T.quotient.F.okX sc_quotient (fun vs H Q E h => ?_) (fun cdv A outer s H vs Q E hr h => ?_)
  · obtain ⟨i, j, rfl, _⟩ := h
    rfl
  obtain ⟨i, j, rfl, hi, hj, q, e⟩ := h
  refine ⟨_, (pss_cons (ps_if (pt_cmpR op_eq (pv 1) pe_int (nomark _)) (pss_one (ps_raise rfl (takes_of rfl rfl rfl rfl) (pmk_own PySem.F.excBase_ValueError T.xT T.gTrapError T.kT (raises_own T.bT T.tT) rfl))) pss_nil)
  (pss_one (ps_ret (pe_op op_fdivX (pv 0) (pv 1))))), ?_⟩
  refine ⟨_, rfl, rfl, _, rfl, ?_⟩
  refine ite2 (fun c => ?_) (fun c => ?_)
  · have c' : j = 0 := by simpa using c
    exact e (if_pos c')
  · have c' : ¬ j = 0 := fun z => c (by rw [z]; rfl)
    exact ⟨_, rfl, _, rfl, _, _, rfl, rfl, divx_ok c' hj, q _ (if_neg c')⟩
theorem ok_remainder (T : Txt w K mg a) : FnOk P w K mg base (L2.CX P w) 1 a.remainder.1 a.remainder.2 ["a", "b"] (spOp a.TrapError 4) := by
  refine T.remainder.F.okX sc_remainder (fun vs H Q E h => ?_) (fun cdv A outer s H vs Q E hr h => ?_)
  · obtain ⟨i, j, rfl, _⟩ := h
    rfl
  obtain ⟨i, j, rfl, hi, hj, q, e⟩ := h
  refine ⟨_, (pss_cons (ps_if (pt_cmpR op_eq (pv 1) pe_int (nomark _)) (pss_one (ps_raise rfl (takes_of rfl rfl rfl rfl) (pmk_own PySem.F.excBase_ValueError T.xT T.gTrapError T.kT (raises_own T.bT T.tT) rfl))) pss_nil)
  (pss_one (ps_ret (pe_op op_modN (pv 0) (pv 1))))), ?_⟩
  refine ⟨_, rfl, rfl, _, rfl, ?_⟩
  refine ite2 (fun c => ?_) (fun c => ?_)
  · have c' : j = 0 := by simpa using c
    exact e (if_pos c')
  · have c' : ¬ j = 0 := fun z => c (by rw [z]; rfl)
    exact ⟨_, rfl, _, rfl, _, _, rfl, rfl, c', q _ (if_neg c')⟩
theorem ok_smaller (T : Txt w K mg a) : FnOk P w K mg base (L2.CX P w) 1 a.smaller.1 a.smaller.2 ["a", "b"] (spOp a.TrapError 5) := by
  refine T.smaller.F.okX sc_smaller (fun vs H Q E h => ?_) (fun cdv A outer s H vs Q E hr h => ?_)
  · obtain ⟨i, j, rfl, _⟩ := h
    rfl
  obtain ⟨i, j, rfl, hi, hj, q, e⟩ := h
  refine ⟨_, (pss_one (ps_ret (pe_callB (call_min2 rfl) (by rfl) T.min (by decide +kernel) (pa_cons (pv 0) (pa_cons (pv 1) pa_nil))))), ?_⟩
  exact ⟨_, rfl, _, rfl, _, _, rfl, q _ rfl⟩
theorem ok_larger (T : Txt w K mg a) : FnOk P w K mg base (L2.CX P w) 1 a.larger.1 a.larger.2 ["a", "b"] (spOp a.TrapError 6) := by
  refine T.larger.F.okX sc_larger (fun vs H Q E h => ?_) (fun cdv A outer s H vs Q E hr h => ?_)
  · obtain ⟨i, j, rfl, _⟩ := h
    rfl
  obtain ⟨i, j, rfl, hi, hj, q, e⟩ := h
  refine ⟨_, (pss_one (ps_ret (pe_callB (call_max2 rfl) (by rfl) T.max (by decide +kernel) (pa_cons (pv 0) (pa_cons (pv 1) pa_nil))))), ?_⟩
  exact ⟨_, rfl, _, rfl, _, _, rfl, q _ rfl⟩
theorem ok_is_less (T : Txt w K mg a) : FnOk P w K mg base (L2.CX P w) 1 a.is_less.1 a.is_less.2 ["a", "b"] (spOp a.TrapError 7) := by
  refine T.is_less.F.okX sc_is_less (fun vs H Q E h => ?_) (fun cdv A outer s H vs Q E hr h => ?_)
  · obtain ⟨i, j, rfl, _⟩ := h
    rfl
  obtain ⟨i, j, rfl, hi, hj, q, e⟩ := h
  refine ⟨_, (pss_one (ps_ret (pe_ifExp (pt_cmpR op_lt (pv 0) (pv 1) (nomark _)) pe_int pe_int))), ?_⟩
  refine ⟨_, rfl, _, rfl, _, _, rfl, rfl, _, rfl, ?_⟩
  refine ite2 (fun c => ?_) (fun c => ?_)
  · exact q _ (congrArg some (if_pos (of_decide_eq_true c)))
  · exact q _ (congrArg some (if_neg (of_decide_eq_false (Bool.eq_false_iff.mpr c))))
theorem ok_is_equal (T : Txt w K mg a) : FnOk P w K mg base (L2.CX P w) 1 a.is_equal.1 a.is_equal.2 ["a", "b"] (spOp a.TrapError 8) := by
  refine T.is_equal.F.okX sc_is_equal (fun vs H Q E h => ?_) (fun cdv A outer s H vs Q E hr h => ?_)
  · obtain ⟨i, j, rfl, _⟩ := h
    rfl
  obtain ⟨i, j, rfl, hi, hj, q, e⟩ := h
  refine ⟨_, (pss_one (ps_ret (pe_ifExp (pt_cmpR op_eq (pv 0) (pv 1) (nomark _)) pe_int pe_int))), ?_⟩
  refine ⟨_, rfl, _, rfl, rfl, _, rfl, ?_⟩
  refine ite2 (fun c => ?_) (fun c => ?_)
  · exact q _ (congrArg some (if_pos (V.int.inj (of_decide_eq_true c))))
  · exact q _ (congrArg some (if_neg fun z => of_decide_eq_false (Bool.eq_false_iff.mpr c) (congrArg V.int z)))
def sgn : List Str := ["+", "-", "*", "/", "mod", "min", "max", "<", "="]
def spCalc (C : Addr) : Sp := fun vs H Q E => ∃ (k : Nat) (s : Str) (i j : Int), vs = [.str s, .int i, .int j] ∧ sgn[k]? = some s ∧ InR i ∧ InR j ∧ (∀ n, opI k i j = some n → Q (.int (wrap n)) H) ∧ (opI k i j = none → E (.ref C) none H)
theorem calc_of (T : Txt w K mg a) {k : Nat} {s : Str} {i j : Int} {f : Addr × FuncData} {x : Str} {st : Stmt} (F : Fun K x x st f.1 f.2) (b : Binds K f.2 ["a", "b"] []) (G : FnOk P w K mg base (L2.CX P w) 1 f.1 f.2 ["a", "b"] (spOp a.TrapError k)) (ho : KDct K w a.OPS s (.ref f.1))
    (hi : InR i) (hj : InR j) {cdv : Value} {A : Around} {outer : List Env} {sh : Shared} {H : Hp} {Q : VK} {E : XK} (hr : Room 1 (A.deeper (envOfC "calculate" (defScope s_calculate) sh.heap.objs.size a.calculate.1 cdv)))
    (q : ∀ n, opI k i j = some n → Q (.int (wrap n)) H) (e : opI k i j = none → E (.ref a.TrapError) none H) :
    ∃ t, PSs (cxOf (L2.CX P w) P w K mg base ["sign", "a", "b", "operation"] "calculate" (defScope s_calculate) a.calculate.1 cdv A outer sh H E) (defBody s_calculate) t ∧ t { nx := fun _ H' => Q .non H', rt := Q } (start ["sign", "a", "b", "operation"] [.str s, .int i, .int j]) H := by
  have nd := sc_calculate.nd
  have G_wrapped : FnOk P w K mg base CX0 1 a.wrapped.1 a.wrapped.2 ["n"] spWrapped := ok_wrapped T
  refine ⟨_, (pss_cons (ps_set (i := 3) nd rfl (Or.inl rfl) (pe_ix ix_kdict (pe_glob (v := .ref a.OPS) rfl T.gOP rfl) (pv 0) (fun _ _ => rfl)))
  (pss_one (ps_ret (pe_call G_wrapped (hr.mono (by decide)) rfl T.wrapped.g T.wrapped.F.kp T.wrapped.b .nil pass0 (pa_cons (pe_callL (i := 3) G hr rfl (.inl rfl) F.kp b .nil (passes_call (takes_of rfl rfl rfl rfl) (fun _ _ _ _ h => h)) (pa_cons (pv 1) (pa_cons (pv 2) pa_nil))) pa_nil))))), ?_⟩
  exact ⟨_, rfl, a.OPS, s, _, rfl, rfl, ho, rfl, _, rfl, _, rfl, i, j, rfl, hi, hj, fun n en => ⟨n, rfl, q n en⟩, e⟩
theorem ok_calculate (T : Txt w K mg a) : FnOk P w K mg base (L2.CX P w) 2 a.calculate.1 a.calculate.2 ["sign", "a", "b"] (spCalc a.TrapError) := by
  refine T.calculate.F.okX sc_calculate (fun vs H Q E h => ?_) (fun cdv A outer s H vs Q E hr h => ?_)
  · obtain ⟨k, s, i, j, rfl, _⟩ := h
    rfl
  obtain ⟨k, s, i, j, rfl, hk, hi, hj, q, e⟩ := h
  match k, hk, q, e with
  | 0, hk, q, e =>
    obtain rfl : ("+" : Str) = _ := Option.some.inj hk
    exact calc_of T T.added.F T.added.b (ok_added T) T.o_added hi hj hr q e
  | 1, hk, q, e =>
    obtain rfl : ("-" : Str) = _ := Option.some.inj hk
    exact calc_of T T.subtracted.F T.subtracted.b (ok_subtracted T) T.o_subtracted hi hj hr q e
  | 2, hk, q, e =>
    obtain rfl : ("*" : Str) = _ := Option.some.inj hk
    exact calc_of T T.multiplied.F T.multiplied.b (ok_multiplied T) T.o_multiplied hi hj hr q e
  | 3, hk, q, e =>
    obtain rfl : ("/" : Str) = _ := Option.some.inj hk
    exact calc_of T T.quotient.F T.quotient.b (ok_quotient T) T.o_quotient hi hj hr q e
  | 4, hk, q, e =>
    obtain rfl : ("mod" : Str) = _ := Option.some.inj hk
    exact calc_of T T.remainder.F T.remainder.b (ok_remainder T) T.o_remainder hi hj hr q e
  | 5, hk, q, e =>
    obtain rfl : ("min" : Str) = _ := Option.some.inj hk
    exact calc_of T T.smaller.F T.smaller.b (ok_smaller T) T.o_smaller hi hj hr q e
  | 6, hk, q, e =>
    obtain rfl : ("max" : Str) = _ := Option.some.inj hk
    exact calc_of T T.larger.F T.larger.b (ok_larger T) T.o_larger hi hj hr q e
  | 7, hk, q, e =>
    obtain rfl : ("<" : Str) = _ := Option.some.inj hk
    exact calc_of T T.is_less.F T.is_less.b (ok_is_less T) T.o_is_less hi hj hr q e
  | 8, hk, q, e =>
    obtain rfl : ("=" : Str) = _ := Option.some.inj hk
    exact calc_of T T.is_equal.F T.is_equal.b (ok_is_equal T) T.o_is_equal hi hj hr q e
  | _ + 9, hk, _, _ => exact absurd hk (by simp [sgn])

/-! ### the law's own defs -/
def StAt (H : Hp) (st c : Addr) : Prop := ∃ (ns : List Int) (z : Int), H st = some (.lst [.ref c, .int z]) ∧ H c = some (.lst (ns.map V.int))
theorem StAt.ne {H : Hp} {st c : Addr} (h : StAt H st c) : st ≠ c := by
  obtain ⟨ns, z, h1, h2⟩ := h
  refine ne_of h1 h2 fun e => ?_
  cases ns with
  | nil => cases e
  | cons x r => cases e
def Go (st c : Addr) (H H' : Hp) : Prop := (∀ b o, b ≠ st → b ≠ c → H b = some o → H' b = some o) ∧ StAt H' st c
theorem Go.trans {st c : Addr} {H H1 H2 : Hp} (x : Go st c H H1) (y : Go st c H1 H2) : Go st c H H2 := ⟨fun b o h1 h2 e => y.1 b o h1 h2 (x.1 b o h1 h2 e), y.2⟩
theorem same_new {H : Hp} {p : Addr} (h : H p = none) (o : HO) : Same H (upd H p o) := fun b u q => by rw [upd_ne (ne_of_none q h)]; exact q
theorem StAt.keep {H H' : Hp} {st c : Addr} (h : StAt H st c) (k : Same H H') : StAt H' st c := by
  obtain ⟨ns, z, h1, h2⟩ := h
  exact ⟨ns, z, k _ _ h1, k _ _ h2⟩
theorem Go.same {st c : Addr} {H H1 : Hp} (h : StAt H st c) (k : Same H H1) : Go st c H H1 := ⟨fun b o _ _ e => k b o e, h.keep k⟩
theorem ifF {c : Bool} {A B : Prop} (h : c = false) (q : B) : if c = true then A else B := by rw [h]; exact iteF q
theorem ifT {c : Bool} {A B : Prop} (h : c = true) (q : A) : if c = true then A else B := by rw [h]; exact iteT q
theorem int_at {ns : List Int} {i : Nat} {y : V} (h : (ns.map V.int)[i]? = some y) : i < ns.length ∧ ∃ u, y = V.int u := by
  rw [List.getElem?_map] at h
  cases e : ns[i]? with
  | none => rw [e] at h; cases h
  | some u =>
    rw [e] at h
    exact ⟨(List.getElem?_eq_some_iff.mp e).1, u, (Option.some.inj h).symm⟩
def spState (K : PySem.W.Frag) : Sp := fun vs H Q _ => ∃ (p : Addr) (ns : List Int), vs = [.ref p] ∧ SqL K H p (ns.map V.int) ∧ ns.length ≤ 63 ∧ ∀ H' st c, Same H H' → H st = none → H c = none → StAt H' st c → Q (.ref st) H'
theorem ok_law_state (T : Txt w K mg a) : FnOk P w K mg base CX0 1 a.law_state.1 a.law_state.2 ["script"] (spState K) := by
  refine T.law_state.F.ok sc_law_state (fun vs H Q E h => ?_) (fun cdv A outer s H vs Q E hr h => ?_)
  · obtain ⟨p, ns, rfl, _⟩ := h
    rfl
  obtain ⟨p, ns, rfl, hS, h63, q⟩ := h
  have nd := sc_law_state.nd
  refine ⟨_, (pss_cons (ps_set (i := 1) nd rfl (Or.inl rfl) pe_int)
  (pss_cons (ps_for PassesOwn.never rfl (pi_list (pv 0)) (pg_name (i := 2) nd rfl (Or.inl rfl)) (pss_one (ps_set (i := 1) nd rfl (Or.inl rfl) (pe_op op_mod (pe_callTy call_int1 (by rfl) T.int (by decide +kernel) (pa_cons (pe_op op_add (pe_op op_mul (pv 1) pe_int) (pv 2)) pa_nil)) pe_int))))
  (pss_one (ps_ret (pe_lst (pa_cons (pe_lc (own := [("cell", 2)]) (g := gName 2) (tt := tYes) rfl nd (pi_list (pv 0)) (blkOk_by (N := ["script", "seed", "cell"]) (sc := defScope s_law_state) (by decide +kernel)) (fun _ _ _ _ _ => (pg_name (i := 2) nd rfl (Or.inl rfl))) (fun _ _ _ _ _ => pts_nil) (fun _ _ _ _ _ => (pe_callB call_abs (by rfl) T.abs (by decide +kernel) (pa_cons (pe_callTy call_int1 (by rfl) T.int (by decide +kernel) (pa_cons (pv 2) pa_nil)) pa_nil)))) (pa_cons (pe_op op_add (pv 1) pe_int) pa_nil))))))), ?_⟩
  refine ⟨_, rfl, p, rfl, ⟨_, hS⟩, for_list (K := K) (a := p) (xs := ns.map V.int) (fun i σ H' => H' = H ∧ ∃ (z : Int) (v : Option V), σ = [some (.ref p), some (.int z), v]) ⟨rfl, 7, none, rfl⟩ (fun i σ H' _ h => by rw [h.1]; exact hS) ?_ ?_⟩
  · rintro i y σ H' hi ⟨rfl, z, v, rfl⟩
    obtain ⟨_, u, rfl⟩ := int_at hi
    exact ⟨_, rfl, _, _, rfl, rfl, .inr (by decide), _, rfl, _, _, rfl, rfl, .inl ⟨_, rfl, _, _, rfl, rfl, (by show (0 : Int) < 1000003; decide), rfl, _, _, rfl⟩⟩
  · rintro σ H' ⟨rfl, z, v, rfl⟩
    refine ⟨_, rfl, p, rfl, ⟨_, hS⟩, fun D hD => lc_list (K := K) (a := p) (xs := ns.map V.int) (fun i H1 => ∃ acc : List Int, H1 = upd H' D (.lst (acc.map V.int)) ∧ acc.length = i) ⟨[], rfl, rfl⟩ (fun i H1 _ h => ?_) ?_ ?_⟩
    · obtain ⟨acc, rfl, _⟩ := h
      exact (same_new hD _).seq hS
    · rintro i y H1 hi ⟨acc, rfl, hl⟩
      obtain ⟨hi63, u, rfl⟩ := int_at hi
      refine ⟨rfl, _, rfl, .inl ⟨_, rfl, _, rfl, _, upd_same, ?_, acc ++ [if u < 0 then -u else u], ?_, ?_⟩⟩
      · rw [List.length_map]; exact small1000 (by omega)
      · rw [List.map_append, upd_upd]; rfl
      · rw [List.length_append, hl]; rfl
    · rintro H1 ⟨acc, rfl, _⟩
      refine ⟨_, rfl, _, _, rfl, rfl, (by show 2 ≤ sizeLine; decide), fun st hst => ?_⟩
      have hst0 : H' st = none := (same_new hD _).free hst
      refine q _ st D ((same_new hD _).trans (same_new hst _)) hst0 hD ⟨acc, z + 1, upd_same, ?_⟩
      rw [upd_ne (ne_of_none upd_same hst)]
      exact upd_same
def spDraw : Sp := fun vs H Q _ => ∃ (st c : Addr) (m : Int), vs = [.ref st, .int m] ∧ StAt H st c ∧ 0 < m ∧ m < 1099511627776 ∧ ∀ H' n, Go st c H H' → 0 ≤ n → n < m → Q (.int n) H'
theorem ok_law_draw (T : Txt w K mg a) : FnOk P w K mg base CX0 1 a.law_draw.1 a.law_draw.2 ["state", "many"] spDraw := by
  refine T.law_draw.F.ok sc_law_draw (fun vs H Q E h => ?_) (fun cdv A outer s H vs Q E hr h => ?_)
  · obtain ⟨st, c, m, rfl, _⟩ := h
    rfl
  obtain ⟨st, c, m, rfl, hSt, h0, hm, q⟩ := h
  have nd := sc_law_draw.nd
  have hne := hSt.ne
  obtain ⟨ns, z, h1, h2⟩ := hSt
  refine ⟨_, (pss_cons (ps_set (i := 2) nd rfl (Or.inl rfl) (pe_ix ix_list (pv 0) pe_int (fun _ _ => rfl)))
  (pss_cons (ps_while PassesOwn.never (PW.pt (pw_and (pt_cmpR op_gt (pe_callB call_len_seq (by rfl) T.len PySem.boot_len (pa_cons (pv 2) pa_nil)) pe_int (nomark _)) (pw_and1 (pt_cmpR op_eq (pe_ix ix_list (pv 2) pe_int (fun _ _ => rfl)) pe_int (nomark _))))) (pss_one (ps_expr (pe_bm PySem.F.plainAttrs_list PySem.F.slot_list_pop PySem.F.type_list_pop mt_popAt (pv 2) (pa_cons pe_int pa_nil)))))
  (pss_cons (ps_if (pt_cmpR op_gt (pe_callB call_len_seq (by rfl) T.len PySem.boot_len (pa_cons (pv 2) pa_nil)) pe_int (nomark _)) (pss_cons (ps_set (i := 3) nd rfl (Or.inl rfl) (pe_ix ix_list (pv 2) pe_int (fun _ _ => rfl)))
  (pss_cons (ps_asg (pe_op op_fdivW (pv 3) (pv 1)) (pg_sub (pv 2) pe_int set_list))
  (pss_one (ps_ret (pe_op op_mod (pe_callTy call_int1 (by rfl) T.int (by decide +kernel) (pa_cons (pv 3) pa_nil)) (pv 1)))))) pss_nil)
  (pss_cons (ps_set (i := 4) nd rfl (Or.inl rfl) (pe_op op_mod (pe_callTy call_int1 (by rfl) T.int (by decide +kernel) (pa_cons (pe_op op_add (pe_op op_mul (pe_ix ix_list (pv 0) pe_int (fun _ _ => rfl)) pe_int) pe_int) pa_nil)) pe_int))
  (pss_cons (ps_asg (pv 4) (pg_sub (pv 0) pe_int set_list))
  (pss_one (ps_ret (pe_op op_mod (pe_callTy call_int1 (by rfl) T.int (by decide +kernel) (pa_cons (pe_op op_fdiv (pv 4) pe_int) pa_nil)) (pv 1))))))))), ?_⟩
  refine ⟨_, rfl, st, _, _, _, rfl, rfl, SqL.of h1, rfl, ?_⟩
  refine ⟨fun k σ H' => ∃ ns' : List Int, σ = [some (.ref st), some (.int m), some (.ref c), none, none] ∧ k = ns'.length ∧ H' st = some (.lst [.ref c, .int z]) ∧ H' c = some (.lst (ns'.map V.int)) ∧ (∀ b o, b ≠ st → b ≠ c → H b = some o → H' b = some o), ⟨ns.length, ns, rfl, rfl, h1, h2, fun _ _ _ _ e => e⟩, ?_⟩
  rintro k σ H' ⟨ns', rfl, rfl, g1, g2, g3⟩
  have fin : ∀ (ns2 : List Int) (z2 : Int) (H2 : Hp), H2 st = some (.lst [.ref c, .int z2]) → H2 c = some (.lst (ns2.map V.int)) → (∀ b o, b ≠ st → b ≠ c → H' b = some o → H2 b = some o) → Go st c H H2 := fun ns2 z2 H2 e1 e2 e3 => ⟨fun b o n1 n2 e => e3 b o n1 n2 (g3 b o n1 n2 e), ns2, z2, e1, e2⟩
  refine ⟨_, rfl, c, _, rfl, .inl (SqL.of g2), _, _, rfl, rfl, _, rfl, ?_⟩
  cases ns' with
  | nil =>
    refine ifF (by rw [List.map_nil]; decide) ?_
    refine ifF rfl ?_
    refine ⟨_, rfl, c, _, rfl, .inl (SqL.of g2), _, _, rfl, rfl, _, rfl, ?_⟩
    refine ifF (by rw [List.map_nil]; decide) ?_
    refine ⟨_, rfl, st, _, _, _, rfl, rfl, SqL.of g1, rfl, _, _, rfl, rfl, .inr (by decide), _, _, rfl, rfl, .inl ⟨_, rfl, _, _, rfl, rfl, (by show (0 : Int) < 2147483647; decide), ?_⟩⟩
    refine ⟨_, rfl, _, rfl, st, _, _, _, rfl, rfl, g1, rfl, ?_⟩
    refine ⟨_, rfl, _, _, rfl, rfl, (by constructor <;> decide), .inl ⟨_, rfl, _, rfl, _, _, rfl, rfl, h0, ?_⟩⟩
    refine q _ _ (fin [] _ _ upd_same ?_ fun b o n1 _ e => ?_) (Int.emod_nonneg _ (by omega)) (Int.emod_lt_of_pos _ h0)
    · rw [upd_ne hne.symm]; exact g2
    · rw [upd_ne n1]; exact e
  | cons x r =>
    refine ifT (by rw [List.length_map]; exact decide_eq_true (by simp)) ?_
    refine ⟨_, rfl, c, _, _, _, rfl, rfl, SqL.of g2, atI_nat (j := 0) rfl, rfl, _, rfl, ?_⟩
    refine ite2 (fun _ => ?_) (fun _ => ?_)
    · refine ⟨fun σ' H2 => ∃ ns2 : List Int, σ' = [some (.ref st), some (.int m), some (.ref c), none, none] ∧ ns2.length = r.length ∧ H2 st = some (.lst [.ref c, .int z]) ∧ H2 c = some (.lst (ns2.map V.int)) ∧ (∀ b o, b ≠ st → b ≠ c → H b = some o → H2 b = some o), ?_, ?_⟩
      · rintro σ' H2 ⟨ns2, e1, e2, e3⟩
        exact ⟨r.length, by rw [List.length_cons]; omega, ns2, e1, e2.symm, e3⟩
      · refine ⟨_, rfl, .inl ⟨rfl, _, SqL.of g2⟩, c, _, _, 0, _, rfl, rfl, g2, by decide, by decide, ?_, rfl, ?_⟩
        · rw [List.length_map, List.length_cons]
          unfold seqIndex?
          simp
        · refine ⟨r, rfl, rfl, ?_, upd_same, fun b o n1 n2 e => ?_⟩
          · rw [upd_ne hne]; exact g1
          · rw [upd_ne n2]; exact g3 b o n1 n2 e
    · refine ⟨_, rfl, c, _, rfl, .inl (SqL.of g2), _, _, rfl, rfl, _, rfl, ?_⟩
      refine ifT (by rw [List.length_map]; exact decide_eq_true (by simp)) ?_
      refine ⟨_, rfl, c, _, _, _, rfl, rfl, SqL.of g2, atI_nat (j := 0) rfl, ?_⟩
      refine ⟨_, rfl, _, rfl, _, _, rfl, rfl, wide_div (b := 40) h0 (by omega) (by decide) (by decide), ?_⟩
      refine ⟨_, rfl, c, _, _, 0, rfl, rfl, g2, by rw [List.length_map, List.length_cons]; simp [ixN], ?_⟩
      refine ⟨_, rfl, .inl ⟨_, rfl, _, rfl, _, _, rfl, rfl, h0, ?_⟩⟩
      refine q _ _ (fin (x / m :: r) z _ ?_ upd_same fun b o _ n2 e => ?_) (Int.emod_nonneg _ (by omega)) (Int.emod_lt_of_pos _ h0)
      · rw [upd_ne hne]; exact g1
      · rw [upd_ne n2]; exact e
def spPick : Sp := fun vs H Q _ => ∃ (st c r : Addr) (xs : List V), vs = [.ref st, .ref r] ∧ StAt H st c ∧ H r = some (.lst xs) ∧ r ≠ st ∧ r ≠ c ∧ 0 < xs.length ∧ xs.length ≤ 1000 ∧ ∀ H' x, Go st c H H' → x ∈ xs → Q x H'
theorem ok_law_pick (T : Txt w K mg a) : FnOk P w K mg base CX0 2 a.law_pick.1 a.law_pick.2 ["state", "row"] spPick := by
  refine T.law_pick.F.ok sc_law_pick (fun vs H Q E h => ?_) (fun cdv A outer s H vs Q E hr h => ?_)
  · obtain ⟨st, c, r, xs, rfl, _⟩ := h
    rfl
  obtain ⟨st, c, r, xs, rfl, hSt, hx, n1, n2, l0, l1, q⟩ := h
  have G_law_draw := ok_law_draw (P := P) (w := w) (base := base) T
  refine ⟨_, (pss_one (ps_ret (pe_ix ix_list (pv 1) (pe_call G_law_draw (hr.mono (by decide)) rfl T.law_draw.g T.law_draw.F.kp T.law_draw.b .nil pass0 (pa_cons (pv 0) (pa_cons (pe_callB call_len_seq (by rfl) T.len PySem.boot_len (pa_cons (pv 1) pa_nil)) pa_nil))) (fun _ _ => rfl)))), ?_⟩
  refine ⟨_, rfl, _, rfl, _, rfl, r, _, rfl, .inl (SqL.of hx), st, c, _, rfl, hSt, by omega, by omega, fun H' n g h0 h1 => ?_⟩
  have hk : n.toNat < xs.length := by omega
  have ek : n = ((n.toNat : Nat) : Int) := by omega
  refine ⟨r, xs, n, xs[n.toNat], rfl, rfl, SqL.of (g.1 _ _ n1 n2 hx), ?_, q _ _ g (List.getElem_mem hk)⟩
  have e : atI xs ((n.toNat : Nat) : Int) = some xs[n.toNat] := atI_nat (List.getElem?_eq_getElem hk)
  rw [← ek] at e
  exact e
def spNumber : Sp := fun vs H Q _ => ∃ (st c : Addr), vs = [.ref st] ∧ StAt H st c ∧ ∀ H' n, Go st c H H' → InR n → Q (.int n) H'
theorem ok_law_number (T : Txt w K mg a) : FnOk P w K mg base CX0 3 a.law_number.1 a.law_number.2 ["state"] spNumber := by
  refine T.law_number.F.ok sc_law_number (fun vs H Q E h => ?_) (fun cdv A outer s H vs Q E hr h => ?_)
  · obtain ⟨st, c, rfl, _⟩ := h
    rfl
  obtain ⟨st, c, rfl, hSt, q⟩ := h
  have G_law_draw := ok_law_draw (P := P) (w := w) (base := base) T
  have G_law_pick := ok_law_pick (P := P) (w := w) (base := base) T
  have nd := sc_law_number.nd
  refine ⟨_, (pss_cons (ps_set (i := 1) nd rfl (Or.inl rfl) (pe_lst (pa_cons pe_int (pa_cons (pe_un un_neg pe_int) (pa_cons pe_int (pa_cons (pe_un un_neg pe_int) (pa_cons pe_int pa_nil)))))))
  (pss_cons (ps_if (pt_cmpR op_eq (pe_call G_law_draw (hr.mono (by decide)) rfl T.law_draw.g T.law_draw.F.kp T.law_draw.b .nil pass0 (pa_cons (pv 0) (pa_cons pe_int pa_nil))) pe_int (nomark _)) (pss_one (ps_ret (pe_call G_law_pick (hr.mono (by decide)) rfl T.law_pick.g T.law_pick.F.kp T.law_pick.b .nil pass0 (pa_cons (pv 0) (pa_cons (pv 1) pa_nil))))) pss_nil)
  (pss_one (ps_ret (pe_op op_sub (pe_call G_law_draw (hr.mono (by decide)) rfl T.law_draw.g T.law_draw.F.kp T.law_draw.b .nil pass0 (pa_cons (pv 0) (pa_cons pe_int pa_nil))) pe_int))))), ?_⟩
  refine ⟨_, rfl, _, rfl, (by show 5 ≤ sizeLine; decide), fun p hp => ?_⟩
  have hSt1 := hSt.keep (same_new hp (.lst [.int 0, .int (-1), .int 2147483647, .int (-2147483648), .int 65536]))
  have g0 := Go.same hSt (same_new hp (.lst [.int 0, .int (-1), .int 2147483647, .int (-2147483648), .int 65536]))
  obtain ⟨_, _, a1, a2⟩ := id hSt
  have n1 : p ≠ st := (ne_of_none a1 hp).symm
  have n2 : p ≠ c := (ne_of_none a2 hp).symm
  refine ⟨_, rfl, st, c, _, rfl, hSt1, by decide, by decide, fun H2 n g2 h0 h1 => ?_⟩
  refine ⟨rfl, _, rfl, ?_⟩
  refine ite2 (fun _ => ?_) (fun _ => ?_)
  · refine ⟨_, rfl, _, rfl, st, c, p, _, rfl, g2.2, g2.1 _ _ n1 n2 upd_same, n1, n2, by decide, by decide, fun H3 x g3 hx => ?_⟩
    have g := (g0.trans g2).trans g3
    simp only [List.mem_cons, List.not_mem_nil, or_false] at hx
    rcases hx with rfl | rfl | rfl | rfl | rfl <;> exact q _ _ g (by unfold InR; omega)
  · refine ⟨_, rfl, st, c, _, rfl, g2.2, by decide, by decide, fun H3 x g3 h0 h1 => ?_⟩
    exact ⟨_, _, rfl, rfl, q _ _ ((g0.trans g2).trans g3) (by unfold InR; omega)⟩
end
end K11

namespace K11
open PySem PySem.Spec PyProof.Rows L2
/-! ### words -/
abbrev iv (ns : List Int) : List V := ns.map V.int
def NN : Nat := 1000000
theorem iv_get {ns : List Int} {i : Nat} {y : V} (h : (iv ns)[i]? = some y) : ∃ n, ns[i]? = some n ∧ y = .int n := by
  rw [List.getElem?_map] at h
  cases e : ns[i]? with
  | none => rw [e] at h; cases h
  | some u => rw [e] at h; exact ⟨u, rfl, (Option.some.inj h).symm⟩
theorem get_iv {ns : List Int} {i : Nat} {n : Int} (h : ns[i]? = some n) : (iv ns)[i]? = some (.int n) := by rw [List.getElem?_map, h]; rfl
theorem iv_len (ns : List Int) : (iv ns).length = ns.length := List.length_map _
def VecsAt (K : PySem.W.Frag) (H : Hp) : List Addr → List (List Int) → Prop
  | [], [] => True
  | a :: as, x :: xs => H a = some (.lst (iv x)) ∧ VecsAt K H as xs
  | _, _ => False
theorem seq_same {K : PySem.W.Frag} {H H' : Hp} {p : Addr} {xs : List V} (s : Same H H') (h : SqL K H p xs) : SqL K H' p xs := s.seq h
theorem VecsAt.same {K : PySem.W.Frag} {H H' : Hp} (s : Same H H') : ∀ {as : List Addr} {xss : List (List Int)}, VecsAt K H as xss → VecsAt K H' as xss
  | [], [], _ => trivial
  | _ :: _, _ :: _, ⟨a, b⟩ => ⟨s _ _ a, b.same s⟩
  | [], _ :: _, h => h.elim
  | _ :: _, [], h => h.elim
theorem VecsAt.one {K : PySem.W.Frag} {H : Hp} {as : List Addr} {x : List Int} (h : VecsAt K H as [x]) : ∃ a, as = [a] ∧ SqL K H a (iv x) ∧ H a = some (.lst (iv x)) := by
  cases as with
  | nil => exact h.elim
  | cons a r =>
    cases r with
    | nil => exact ⟨a, rfl, SqL.of h.1, h.1⟩
    | cons b r => exact h.2.elim
theorem VecsAt.two {K : PySem.W.Frag} {H : Hp} {as : List Addr} {x y : List Int} (h : VecsAt K H as [x, y]) : ∃ a b, as = [a, b] ∧ SqL K H a (iv x) ∧ SqL K H b (iv y) ∧ H a = some (.lst (iv x)) ∧ H b = some (.lst (iv y)) := by
  cases as with
  | nil => exact h.elim
  | cons a r =>
    obtain ⟨b, rfl, i, j⟩ := VecsAt.one h.2
    exact ⟨a, b, rfl, SqL.of h.1, i, h.1, j⟩
/-- one turn of a comprehension: the new list has one more item -/
theorem tick {H1 H H4 : Hp} {D : Addr} {A B : List V} {y : V} (sm : Same H1 H) (n1 : H1 D = none) (hD : H D = some (.lst A)) (s4 : Same H H4) (e : A ++ [y] = B) (hn : B.length ≤ NN) :
    ∃ acc, H4 D = some (.lst acc) ∧ acc.length < sizeLine ∧ (Same H1 (upd H4 D (.lst (acc ++ [y]))) ∧ (upd H4 D (.lst (acc ++ [y]))) D = some (.lst B)) := by
  subst e
  refine ⟨A, s4 _ _ hD, ?_, fun b o eb => ?_, upd_same⟩
  · rw [List.length_append, List.length_singleton] at hn
    exact Nat.lt_of_lt_of_le hn (by show NN ≤ sizeLine; decide)
  · rw [upd_ne (ne_of_none eb n1)]
    exact s4 _ _ (sm _ _ eb)
theorem mapR (F : Nat → Int) (i : Nat) : iv ((List.range i).map F) ++ [V.int (F i)] = iv ((List.range (i + 1)).map F) := by simp [iv, List.range_succ]
theorem flatR (G : Nat → List Int) (i : Nat) : iv ((List.range i).flatMap G) ++ iv (G i) = iv ((List.range (i + 1)).flatMap G) := by simp [iv, List.range_succ]
/-- an inner walk, whatever is done for an item -/
theorem in_it {J : It} {n : Nat} {G : Hp → Prop} {Y : Nat → Hp → V → Hp → Prop} {H1 : Hp} {Qd : Hp → Prop} {B : V → Hp → (Hp → Prop) → Prop} (w : Walk J n G Y) (Pv : Nat → Hp → Prop) (h0 : Pv 0 H1) (hG : ∀ i H, i ≤ n → Pv i H → G H)
    (hs : ∀ i x H H', i < n → Pv i H → Y i H x H' → B x H' (Pv (i + 1))) (hd : ∀ H, Pv n H → Qd H) :
    ∃ W : Nat → Nat → Hp → Prop, (∃ m, W 0 m H1) ∧ ∀ i m H, W i m H → (J.stop i H ∧ Qd H) ∨ (J.go i H ∧ ∃ Nx : Hp → Prop, (∀ H', Nx H' → ∃ m', m' < m ∧ W (i + 1) m' H') ∧ ∀ x H', J.yld i H x H' → B x H' Nx) := by
  refine ⟨fun i m H => m = n - i ∧ i ≤ n ∧ Pv i H, ⟨n, by simp, Nat.zero_le _, h0⟩, ?_⟩
  rintro i m H ⟨rfl, hi, p⟩
  have q := hG i H hi p
  by_cases lt : i < n
  · exact .inr ⟨w.goes i H lt q, Pv (i + 1), fun H' p' => ⟨n - (i + 1), by omega, rfl, lt, p'⟩, fun x H' y => hs i x H H' lt p (w.yields i H x H' lt q y)⟩
  · obtain rfl : i = n := by omega
    exact .inl ⟨w.stops H q, hd H p⟩
def Y3 (xs ys zs : List V) : Nat → Hp → V → Hp → Prop := fun i H v H' => ∃ T x y z, v = .ref T ∧ H T = none ∧ H' = upd H T (.tup [x, y, z]) ∧ xs[i]? = some x ∧ ys[i]? = some y ∧ zs[i]? = some z
theorem walk_z3 {K : PySem.W.Frag} {a b c : Addr} {xs ys zs : List V} {n : Nat} (h1 : xs.length = n) (h2 : ys.length = n) (h3 : zs.length = n) : Walk (ZN.It3 K a b c) n (fun H => SqL K H a xs ∧ SqL K H b ys ∧ SqL K H c zs) (Y3 xs ys zs) := by
  refine ⟨fun i _ hi q => ⟨xs, ys, zs, xs[i], ys[i], zs[i], q.1, q.2.1, q.2.2, by simp, by simp, by simp⟩, fun _ q => ⟨xs, ys, zs, q.1, q.2.1, q.2.2, by omega⟩, fun i H v H' _ q y => ?_⟩
  obtain ⟨T, x1, x2, x3, e1, e2, e3, e4, e5, e6⟩ := y
  exact ⟨T, x1, x2, x3, e1, e2, e3, e4 xs q.1, e5 ys q.2.1, e6 zs q.2.2⟩
def Y4 (xs ys zs ws : List V) : Nat → Hp → V → Hp → Prop := fun i H v H' => ∃ T x y z u, v = .ref T ∧ H T = none ∧ H' = upd H T (.tup [x, y, z, u]) ∧ xs[i]? = some x ∧ ys[i]? = some y ∧ zs[i]? = some z ∧ ws[i]? = some u
theorem walk_z4 {K : PySem.W.Frag} {a b c d : Addr} {xs ys zs ws : List V} {n : Nat} (h1 : xs.length = n) (h2 : ys.length = n) (h3 : zs.length = n) (h4 : ws.length = n) : Walk (ZN.It4 K a b c d) n (fun H => SqL K H a xs ∧ SqL K H b ys ∧ SqL K H c zs ∧ SqL K H d ws) (Y4 xs ys zs ws) := by
  refine ⟨fun i _ hi q => ⟨xs, ys, zs, ws, xs[i], ys[i], zs[i], ws[i], q.1, q.2.1, q.2.2.1, q.2.2.2, by simp, by simp, by simp, by simp⟩, fun _ q => ⟨xs, ys, zs, ws, q.1, q.2.1, q.2.2.1, q.2.2.2, by omega⟩, fun i H v H' _ q y => ?_⟩
  obtain ⟨T, x1, x2, x3, x4, e1, e2, e3, e4, e5, e6, e7⟩ := y
  exact ⟨T, x1, x2, x3, x4, e1, e2, e3, e4 xs q.1, e5 ys q.2.1, e6 zs q.2.2.1, e7 ws q.2.2.2⟩
/-! rules that name the block's K -/
section
variable {X : Cx} {K : PySem.W.Frag}
theorem call_lenK (hK : X.K = K) : CallR X (.builtin "len") (fun xs H Q => ∃ p ys, xs = [.ref p] ∧ (SqL K H p ys ∨ SqT K H p ys) ∧ Q (.int (ys.length : Nat)) H) := hK ▸ call_len_seq
theorem ix_tupK (hK : X.K = K) : IxR X (rIxT K) := hK ▸ ix_tup
theorem ix_listK (hK : X.K = K) : IxR X (rIxL K) := hK ▸ ix_list
theorem sl_listK (hK : X.K = K) : SlR X (rSlL K) := hK ▸ sl_list
theorem cr_sumK (hK : X.K = K) (hc : X.calm = true) : CallR X (.builtin "sum") (rSum K) := hK ▸ cr_sum hc
theorem pg_tupK {es : List Expr} {k : Nat} {pos : Pos} {t : TGs} {n : Nat} (hK : X.K = K) (hc : X.calm = true) (h : PGs X es t) (hn : (assignEach es X.env).length = n := by rfl) (hst : (assignEach es X.env).findIdx? (·.1) = none := by rfl) : PG X (.Tuple es k pos) (gTup K n t) := hK ▸ pg_tup hc h hn hst
theorem pi_listK {tg l : Expr} {tl : TE} (hK : X.K = K) (hl : PE X l tl) : PI X tg l (iList K tl) := hK ▸ pi_list hl
end
/-! ### what the instructions give -/
def at_ (ls : List Int) (i : Nat) : Int := ls.getD i 0
def pre (ls : List Int) (i : Nat) : Int := (ls.take i).sum
theorem at_some {ls : List Int} {i : Nat} {n : Int} (h : ls[i]? = some n) : at_ ls i = n := by unfold at_; rw [List.getD_eq_getElem?_getD, h]; rfl
theorem at_get {ls : List Int} {i : Nat} (h : i < ls.length) : ls[i]? = some (at_ ls i) := by
  rw [List.getElem?_eq_getElem h, at_some (List.getElem?_eq_getElem h)]
theorem pre_succ {ls : List Int} {i : Nat} (h : i < ls.length) : pre ls (i + 1) = pre ls i + at_ ls i := by
  unfold pre
  rw [List.take_add_one, at_get h, List.sum_append]
  simp
def rng (lo n : Int) : List Int := (List.range n.toNat).map fun (k : Nat) => lo + (k : Int)
theorem rng_len (lo n : Int) : (rng lo n).length = n.toNat := by simp [rng]
/-- lengths: not negative, few -/
structure Lens (ls : List Int) : Prop where
  nn : ∀ i, 0 ≤ at_ ls i
  sm : ls.sum ≤ NN
  ln : ls.length ≤ NN
theorem Lens.mem {ls : List Int} (h : Lens ls) : ∀ l ∈ ls, 0 ≤ l := fun l m => by
  obtain ⟨i, e⟩ := List.getElem?_of_mem m
  rw [← at_some e]; exact h.nn i
theorem sum_nn {ls : List Int} (h : ∀ l ∈ ls, 0 ≤ l) : 0 ≤ ls.sum := by
  induction ls with
  | nil => exact Int.le_refl _
  | cons x r ih =>
    rw [List.sum_cons]
    have := h x (List.mem_cons_self ..)
    have := ih fun y m => h y (List.mem_cons_of_mem _ m)
    omega
theorem pre_le {ls : List Int} (h : ∀ l ∈ ls, 0 ≤ l) (i : Nat) : 0 ≤ pre ls i ∧ pre ls i ≤ ls.sum := by
  have e : ls.sum = (ls.take i).sum + (ls.drop i).sum := by rw [← List.sum_append, List.take_append_drop]
  have a := sum_nn (ls := ls.take i) fun y m => h y (List.mem_of_mem_take m)
  have b := sum_nn (ls := ls.drop i) fun y m => h y (List.mem_of_mem_drop m)
  unfold pre
  omega
theorem Lens.prf {ls : List Int} (h : Lens ls) (i : Nat) : 0 ≤ pre ls i ∧ pre ls i ≤ NN := by
  have := pre_le h.mem i
  have := h.sm
  omega
theorem Lens.seg {ls : List Int} (h : Lens ls) {i : Nat} (hi : i < ls.length) : 0 ≤ at_ ls i ∧ pre ls i + at_ ls i ≤ NN := by
  have a := h.nn i
  have b := h.prf (i + 1)
  rw [pre_succ hi] at b
  omega
end K11

namespace K11
open PySem PySem.Spec PyProof.Rows L2
def spIn (TE : Addr) (pr : V → List (List Int) → Prop) (res : V → List (List Int) → Option (List Int)) (K : PySem.W.Frag) : Sp := fun vs H Q E => ∃ (ex : V) (p : Addr) (as : List Addr) (xss : List (List Int)), vs = [ex, .ref p] ∧ SqL K H p (as.map V.ref) ∧ VecsAt K H as xss ∧ pr ex xss ∧
  (∀ out, res ex xss = some out → ∀ (H' : Hp) (q : Addr), Same H H' → H q = none → H' q = some (.lst (iv out)) → Q (.ref q) H') ∧ (res ex xss = none → ∀ H', Same H H' → E (.ref TE) none H')
theorem spIn.len {TE : Addr} {pr : V → List (List Int) → Prop} {res : V → List (List Int) → Option (List Int)} {K : PySem.W.Frag} {vs : List V} {H : Hp} {Q : VK} {E : XK} (h : spIn TE pr res K vs H Q E) : vs.length = 2 := by
  obtain ⟨_, _, _, _, rfl, _⟩ := h
  rfl
theorem flat_len {G : Nat → List Int} {ls : List Int} (hL : Lens ls) (hG : ∀ j, j < ls.length → (G j).length = (at_ ls j).toNat) : ∀ i, i ≤ ls.length → ((List.range i).flatMap G).length = (pre ls i).toNat
  | 0, _ => by simp [pre]
  | i + 1, h => by
    have ih := flat_len hL hG i (by omega)
    have a := hL.prf i
    have b := hL.seg (i := i) (by omega)
    rw [List.range_succ, List.flatMap_append, List.length_append, ih, pre_succ (by omega)]
    simp only [List.flatMap_cons, List.flatMap_nil, List.append_nil]
    rw [hG i (by omega)]
    omega
theorem flat_pre {ls : List Int} (hL : Lens ls) {lo : Nat → Int} {i : Nat} (h : i ≤ ls.length) : ((List.range i).flatMap fun i => rng (lo i) (at_ ls i)).length = (pre ls i).toNat := flat_len hL (fun j _ => rng_len _ _) i h
theorem rep_pre {ls : List Int} (hL : Lens ls) {i : Nat} (h : i ≤ ls.length) : ((List.range i).flatMap fun i => List.replicate (at_ ls i).toNat (i : Int)).length = (pre ls i).toNat := flat_len hL (fun j _ => List.length_replicate) i h
section
variable {P : Program} {w : World} {K : PySem.W.Frag} {mg : Str → Option Value} {base : Heap} {a : Ad}
def spStarts (K : PySem.W.Frag) : Sp := fun vs H Q _ => ∃ (p : Addr) (ls : List Int), vs = [.ref p] ∧ SqL K H p (iv ls) ∧ ls.length ≤ NN ∧ ∀ (H' : Hp) (q : Addr), Same H H' → H q = none → H' q = some (.lst (iv ((List.range ls.length).map (pre ls)))) → Q (.ref q) H'
theorem ok_starts_of (T : Txt w K mg a) : FnOk P w K mg base CX0 1 a.starts_of.1 a.starts_of.2 ["lengths"] (spStarts K) := by
  refine T.starts_of.F.ok sc_starts_of (fun vs H Q E h => ?_) (fun cdv A outer s H vs Q E hr h => ?_)
  · obtain ⟨_, _, rfl, _⟩ := h
    rfl
  obtain ⟨p, ls, rfl, hp, hl, q⟩ := h
  have nd := sc_starts_of.nd
  refine ⟨_, (pss_cons (ps_set (i := 1) nd rfl (Or.inl rfl) (pe_lst pa_nil))
  (pss_cons (ps_set (i := 2) nd rfl (Or.inl rfl) pe_int)
  (pss_cons (ps_for PassesOwn.never rfl (pi_list (pv 0)) (pg_name (i := 3) nd rfl (Or.inl rfl)) (pss_cons (ps_expr (pe_bm PySem.F.plainAttrs_list PySem.F.slot_list_append PySem.F.type_list_append mt_append (pv 1) (pa_cons (pv 2) pa_nil)))
  (pss_one (ps_aug (i := 2) nd rfl (Or.inl rfl) (pv 3) ip_add))))
  (pss_one (ps_ret (pv 1)))))), ?_⟩
  refine ⟨(by show 0 ≤ sizeLine; decide), fun r nr => ?_⟩
  refine ⟨_, rfl, p, rfl, ⟨_, (same_new nr _).seq hp⟩, for_list (K := K) (a := p) (xs := iv ls) (fun i σ H1 => ∃ v3 : Option V, σ = [some (.ref p), some (.ref r), some (.int (pre ls i)), v3] ∧ Same H H1 ∧ H1 r = some (.lst (iv ((List.range i).map (pre ls))))) ⟨none, rfl, same_new nr _, upd_same⟩ (fun i σ H1 _ h => by obtain ⟨_, _, sm, _⟩ := h; exact sm.seq hp) ?_ ?_⟩
  · rintro i y σ H1 hi ⟨v3, rfl, sm, hr1⟩
    obtain ⟨n, hn, rfl⟩ := iv_get hi
    have il := (List.getElem?_eq_some_iff.mp hn).1
    refine ⟨_, rfl, .inl ⟨rfl, _, SqL.of hr1⟩, _, rfl, r, _, _, rfl, rfl, hr1, ?_, ?_⟩
    · rw [iv_len, List.length_map, List.length_range]
      exact Nat.lt_of_lt_of_le (Nat.lt_of_lt_of_le il hl) (by decide)
    refine ⟨_, rfl, _, rfl, _, _, rfl, rfl, some (.int n), ?_, fun b o eb => ?_, ?_⟩
    · rw [pre_succ il, at_some hn]; rfl
    · rw [upd_ne (ne_of_none eb nr)]; exact sm _ _ eb
    · rw [mapR]; exact upd_same
  · rintro σ H1 ⟨v3, rfl, sm, hr1⟩
    rw [iv_len] at hr1
    exact ⟨_, rfl, q H1 r sm nr hr1⟩
theorem ok_fill (T : Txt w K mg a) : FnOk P w K mg base (L2.CX P w) 1 a.fill.1 a.fill.2 ["extra", "inputs"] (spIn a.TrapError (fun ex xss => ∃ n v, ex = .int n ∧ xss = [v] ∧ v.length ≤ NN) (fun ex xss => match ex with | .int n => some ((xss.headD []).map fun _ => n) | _ => none) K) := by
  refine T.fill.F.okX sc_fill (fun vs H Q E h => h.len) (fun cdv A outer s H vs Q E hr h => ?_)
  obtain ⟨ex, p, as, xss, rfl, hp, hv, hpr, q, e⟩ := h
  have nd := sc_fill.nd
  obtain ⟨n, v, rfl, rfl, hv1⟩ := hpr
  obtain ⟨b, rfl, hb, hb'⟩ := hv.one
  refine ⟨_, (pss_one (ps_ret (pe_lc (own := [("_", 2)]) (g := gName 2) (tt := tYes) rfl nd (pi_list (pe_ix ix_list (pv 1) pe_int (fun _ _ => rfl))) (blkOk_by (N := ["extra", "inputs", "_"]) (sc := defScope s_fill) (by decide +kernel)) (fun _ _ _ _ _ => (pg_name (i := 2) nd rfl (Or.inl rfl))) (fun _ _ _ _ _ => pts_nil) (fun _ _ _ _ _ => (pv 0))))), ?_⟩
  refine ⟨_, rfl, p, _, _, _, rfl, rfl, hp, rfl, b, rfl, ⟨_, hb⟩, fun D nD => lc_it (walk_list (K := K) (a := b) (xs := iv v)) (fun i H1 => Same H H1 ∧ H1 D = some (.lst (iv ((v.take i).map fun _ => n)))) ⟨same_new nD _, by rw [List.take_zero]; exact upd_same⟩ (fun i H1 _ h => h.1.seq hb) ?_ ?_⟩
  · rintro i x H1 H2 hi ⟨sm, hD⟩ ⟨rfl, hx⟩
    obtain ⟨m, hm, rfl⟩ := iv_get hx
    refine ⟨rfl, _, rfl, tick sm nD hD (fun _ _ e => e) ?_ ?_⟩
    · rw [List.take_add_one, hm]; simp [iv]
    · rw [iv_len, List.length_map, List.length_take]; omega
  · rintro H1 ⟨sm, hD⟩
    rw [iv_len, List.take_length] at hD
    exact q _ rfl H1 D sm nD hD
theorem ok_flags (T : Txt w K mg a) : FnOk P w K mg base (L2.CX P w) 1 a.flags.1 a.flags.2 ["_", "inputs"] (spIn a.TrapError (fun _ xss => ∃ v, xss = [v] ∧ v.length ≤ NN) (fun _ xss => some ((xss.headD []).map fun x => if x = 0 then 0 else 1)) K) := by
  refine T.flags.F.okX sc_flags (fun vs H Q E h => h.len) (fun cdv A outer s H vs Q E hr h => ?_)
  obtain ⟨ex, p, as, xss, rfl, hp, hv, hpr, q, e⟩ := h
  have nd := sc_flags.nd
  obtain ⟨v, rfl, hv1⟩ := hpr
  obtain ⟨b, rfl, hb, hb'⟩ := hv.one
  refine ⟨_, (pss_one (ps_ret (pe_lc (own := [("item", 2)]) (g := gName 2) (tt := tYes) rfl nd (pi_list (pe_ix ix_list (pv 1) pe_int (fun _ _ => rfl))) (blkOk_by (N := ["_", "inputs", "item"]) (sc := defScope s_flags) (by decide +kernel)) (fun _ _ _ _ _ => (pg_name (i := 2) nd rfl (Or.inl rfl))) (fun _ _ _ _ _ => pts_nil) (fun _ _ _ _ _ => (pe_ifExp (pt_cmpR op_ne (pv 2) pe_int (nomark _)) pe_int pe_int))))), ?_⟩
  refine ⟨_, rfl, p, _, _, _, rfl, rfl, hp, rfl, b, rfl, ⟨_, hb⟩, fun D nD => lc_it (walk_list (K := K) (a := b) (xs := iv v)) (fun i H1 => Same H H1 ∧ H1 D = some (.lst (iv ((v.take i).map fun x => if x = 0 then 0 else 1)))) ⟨same_new nD _, by rw [List.take_zero]; exact upd_same⟩ (fun i H1 _ h => h.1.seq hb) ?_ ?_⟩
  · rintro i x H1 H2 hi ⟨sm, hD⟩ ⟨rfl, hx⟩
    obtain ⟨m, hm, rfl⟩ := iv_get hx
    have fin : ∀ k : Int, k = (if m = 0 then 0 else 1) → _ := fun k ek => tick (y := .int k) (B := iv ((v.take (i + 1)).map fun x => if x = 0 then 0 else 1)) sm nD hD (fun _ _ e => e) (by rw [List.take_add_one, hm, ek]; simp [iv]) (by rw [iv_len, List.length_map, List.length_take]; omega)
    refine ⟨rfl, _, rfl, rfl, _, rfl, ?_⟩
    by_cases c : m = 0
    · refine ifF (by rw [c]; decide) ?_
      exact fin 0 (by rw [if_pos c])
    · refine ifT (by simpa using c) ?_
      exact fin 1 (by rw [if_neg c])
  · rintro H1 ⟨sm, hD⟩
    rw [iv_len, List.take_length] at hD
    exact q _ rfl H1 D sm nD hD
theorem ok_take (T : Txt w K mg a) : FnOk P w K mg base (L2.CX P w) 1 a.take_.1 a.take_.2 ["_", "inputs"] (spIn a.TrapError (fun _ xss => ∃ v ix, xss = [v, ix] ∧ ix.length ≤ NN ∧ ∀ k ∈ ix, 0 ≤ k ∧ k < v.length) (fun _ xss => some ((xss.getD 1 []).map fun k => at_ (xss.headD []) k.toNat)) K) := by
  refine T.take_.F.okX sc_take (fun vs H Q E h => h.len) (fun cdv A outer s H vs Q E hr h => ?_)
  obtain ⟨ex, p, as, xss, rfl, hp, hv, hpr, q, e⟩ := h
  have nd := sc_take.nd
  obtain ⟨v, ix, rfl, hl, hk⟩ := hpr
  obtain ⟨b, c, rfl, hb, hc, hb', hc'⟩ := hv.two
  refine ⟨_, (pss_cons (ps_asg (pv 1) (pg_unl rfl (pgs_cons (pg_name (i := 2) nd rfl (Or.inr rfl)) (pgs_cons (pg_name (i := 3) nd rfl (Or.inl rfl)) pgs_nil))))
  (pss_one (ps_ret (pe_lc (own := [("index", 4)]) (g := gName 4) (tt := tYes) rfl nd (pi_list (pv 3)) (blkOk_by (N := ["_", "inputs", "vector", "indexes", "index"]) (sc := defScope s_take) (by decide +kernel)) (fun _ _ _ _ _ => (pg_name (i := 4) nd rfl (Or.inl rfl))) (fun _ _ _ _ _ => pts_nil) (fun _ _ _ _ _ => (pe_ix (ix_listK (K := K) rfl) (pv 2) (pv 4) (fun _ _ => rfl))))))), ?_⟩
  refine ⟨_, rfl, p, _, rfl, hp, rfl, _, _, rfl, _, _, rfl, rfl, _, rfl, c, rfl, ⟨_, hc⟩, fun D nD => lc_it (walk_list (K := K) (a := c) (xs := iv ix)) (fun i H1 => Same H H1 ∧ H1 D = some (.lst (iv ((ix.take i).map fun k => at_ v k.toNat)))) ⟨same_new nD _, by rw [List.take_zero]; exact upd_same⟩ (fun i H1 _ h => h.1.seq hc) ?_ ?_⟩
  · rintro i x H1 H2 hi ⟨sm, hD⟩ ⟨rfl, hx⟩
    obtain ⟨m, hm, rfl⟩ := iv_get hx
    obtain ⟨m0, m1⟩ := hk m (List.mem_of_getElem? hm)
    obtain ⟨j, rfl⟩ := Int.eq_ofNat_of_zero_le m0
    refine ⟨rfl, _, rfl, _, rfl, b, _, _, _, rfl, rfl, sm.seq hb, atI_nat (get_iv (at_get (by omega))), tick sm nD hD (fun _ _ e => e) ?_ ?_⟩
    · rw [List.take_add_one, hm]; simp [iv]
    · rw [iv_len, List.length_map, List.length_take]; omega
  · rintro H1 ⟨sm, hD⟩
    rw [iv_len, List.take_length] at hD
    exact q _ rfl H1 D sm nD hD
theorem ok_join (T : Txt w K mg a) : FnOk P w K mg base (L2.CX P w) 1 a.join_.1 a.join_.2 ["_", "inputs"] (spIn a.TrapError (fun _ xss => ∃ v u, xss = [v, u] ∧ v.length + u.length ≤ NN) (fun _ xss => some (xss.headD [] ++ xss.getD 1 [])) K) := by
  refine T.join_.F.okX sc_join (fun vs H Q E h => h.len) (fun cdv A outer s H vs Q E hr h => ?_)
  obtain ⟨ex, p, as, xss, rfl, hp, hv, hpr, q, e⟩ := h
  have nd := sc_join.nd
  obtain ⟨v, u, rfl, hl⟩ := hpr
  obtain ⟨b, c, rfl, hb, hc, hb', hc'⟩ := hv.two
  refine ⟨_, (pss_one (ps_ret (pe_op op_cat (pe_ix ix_list (pv 1) pe_int (fun _ _ => rfl)) (pe_ix ix_list (pv 1) pe_int (fun _ _ => rfl))))), ?_⟩
  refine ⟨_, rfl, p, _, _, _, rfl, rfl, hp, rfl, _, rfl, p, _, _, _, rfl, rfl, hp, rfl, b, c, _, _, rfl, rfl, hb', hc', ?_, fun d nd' => ?_⟩
  · rw [iv_len, iv_len]; exact Nat.le_trans hl (by decide)
  · exact q _ rfl _ d (same_new nd' _) nd' (by rw [upd_same]; simp [iv])
theorem ok_count (T : Txt w K mg a) : FnOk P w K mg base (L2.CX P w) 1 a.count_.1 a.count_.2 ["_", "inputs"] (spIn a.TrapError (fun _ xss => ∃ ls, xss = [ls] ∧ Lens ls) (fun _ xss => some ((List.range (xss.headD []).length).flatMap fun i => rng 0 (at_ (xss.headD []) i))) K) := by
  refine T.count_.F.okX sc_count (fun vs H Q E h => h.len) (fun cdv A outer s H vs Q E hr h => ?_)
  obtain ⟨ex, p, as, xss, rfl, hp, hv, hpr, q, e⟩ := h
  have nd := sc_count.nd
  obtain ⟨ls, rfl, hL⟩ := hpr
  obtain ⟨b, rfl, hb, hb'⟩ := hv.one
  refine ⟨_, (pss_one (ps_ret (pe_lc2 (own := [("length", 2), ("k", 3)]) (vs1 := [3]) (g := gName 2) (tt := tYes) (g1 := gName 3) (tt1 := tYes) rfl nd (pi_list (pe_ix ix_list (pv 1) pe_int (fun _ _ => rfl))) (blkOk_by (N := ["_", "inputs", "length", "k"]) (sc := defScope s_count) (by decide +kernel)) (by decide) (fun _ _ _ _ _ => (pg_name (i := 2) nd rfl (Or.inl rfl))) (fun _ _ _ _ _ => pts_nil) (fun _ _ _ _ _ => (pi_range1 rfl T.range (pa_cons (pv 2) pa_nil))) (fun _ _ _ _ _ => (pg_name (i := 3) nd rfl (Or.inl rfl))) (fun _ _ _ _ _ => pts_nil) (fun _ _ _ _ _ => (pv 3))))), ?_⟩
  refine ⟨_, rfl, p, _, _, _, rfl, rfl, hp, rfl, b, rfl, ⟨_, hb⟩, fun D nD => in_it (walk_list (K := K) (a := b) (xs := iv ls)) (fun i H1 => Same H H1 ∧ H1 D = some (.lst (iv ((List.range i).flatMap fun i => rng 0 (at_ ls i))))) ⟨same_new nD _, upd_same⟩ (fun i H1 _ h => h.1.seq hb) ?_ ?_⟩
  · rintro i x H1 H2 hi ⟨sm, hD⟩ ⟨rfl, hx⟩
    obtain ⟨m, hm, rfl⟩ := iv_get hx
    have il := (List.getElem?_eq_some_iff.mp hm).1
    have sg := hL.seg il
    rw [at_some hm] at sg
    have p0 := hL.prf i
    refine ⟨rfl, _, rfl, _, rfl, by omega, by unfold NN at *; omega, in_it (walk_range (lo := 0) (n := m.toNat)) (fun j H3 => Same H H3 ∧ H3 D = some (.lst (iv ((List.range i).flatMap fun i => rng 0 (at_ ls i)) ++ iv ((List.range j).map fun (k : Nat) => 0 + (k : Int))))) ⟨sm, by rw [hD]; simp [iv]⟩ (fun _ _ _ _ => trivial) ?_ ?_⟩
    · rintro j x H3 H4 hj ⟨sm3, hD3⟩ ⟨rfl, rfl⟩
      refine ⟨rfl, _, rfl, tick sm3 nD hD3 (fun _ _ e => e) ?_ ?_⟩
      · rw [List.append_assoc, ← mapR]
      · rw [List.length_append, iv_len, iv_len, List.length_map, List.length_range, flat_pre hL (by omega)]; omega
    · rintro H3 ⟨sm3, hD3⟩
      refine ⟨sm3, ?_⟩
      rw [hD3, ← flatR, at_some hm]
      rfl
  · rintro H1 ⟨sm, hD⟩
    rw [iv_len] at hD
    exact q _ rfl H1 D sm nD hD
theorem ok_repeat (T : Txt w K mg a) : FnOk P w K mg base (L2.CX P w) 1 a.repeat_.1 a.repeat_.2 ["_", "inputs"] (spIn a.TrapError (fun _ xss => ∃ ls, xss = [ls] ∧ Lens ls) (fun _ xss => some ((List.range (xss.headD []).length).flatMap fun i => List.replicate (at_ (xss.headD []) i).toNat (i : Int))) K) := by
  refine T.repeat_.F.okX sc_repeat (fun vs H Q E h => h.len) (fun cdv A outer s H vs Q E hr h => ?_)
  obtain ⟨ex, p, as, xss, rfl, hp, hv, hpr, q, e⟩ := h
  have nd := sc_repeat.nd
  obtain ⟨ls, rfl, hL⟩ := hpr
  obtain ⟨b, rfl, hb, hb'⟩ := hv.one
  refine ⟨_, (pss_one (ps_ret (pe_lc2 (own := [("at", 2), ("length", 3), ("_", 0)]) (vs1 := [0]) (tt := tYes) (g1 := gName 0) (tt1 := tYes) rfl nd (pi_enum (by rfl) T.enumerate (pa_cons (pe_ix ix_list (pv 1) pe_int (fun _ _ => rfl)) pa_nil)) (blkOk_by (N := ["_", "inputs", "at", "length"]) (sc := defScope s_repeat) (by decide +kernel)) (by decide) (fun _ _ _ _ _ => (pg_tupK (K := K) (n := 2) rfl rfl (pgs_cons (pg_name (i := 2) nd rfl (Or.inl rfl)) (pgs_cons (pg_name (i := 3) nd rfl (Or.inl rfl)) pgs_nil)))) (fun _ _ _ _ _ => pts_nil) (fun _ _ _ _ _ => (pi_range1 rfl T.range (pa_cons (pv 3) pa_nil))) (fun _ _ _ _ _ => (pg_name (i := 0) nd rfl (Or.inl rfl))) (fun _ _ _ _ _ => pts_nil) (fun _ _ _ _ _ => (pv 2))))), ?_⟩
  refine ⟨_, rfl, p, _, _, _, rfl, rfl, hp, rfl, b, _, rfl, hb, fun D nD => in_it (walk_enum (K := K) (a := b) (xs := iv ls)) (fun i H1 => Same H H1 ∧ H1 D = some (.lst (iv ((List.range i).flatMap fun i => List.replicate (at_ ls i).toNat (i : Int))))) ⟨same_new nD _, upd_same⟩ (fun i H1 _ h => h.1.seq hb) ?_ ?_⟩
  · rintro i x H1 H2 hi ⟨sm, hD⟩ ⟨t, _, _, rfl, nt, rfl, e1, hx⟩
    cases e1
    obtain ⟨m, hm, rfl⟩ := iv_get hx
    have il := (List.getElem?_eq_some_iff.mp hm).1
    have sg := hL.seg il
    rw [at_some hm] at sg
    have p0 := hL.prf i
    have smt := same_new nt (.tup [.int (i : Nat), .int m])
    refine ⟨t, _, rfl, .inl (.inl upd_same), rfl, _, _, rfl, _, _, rfl, rfl, rfl, _, rfl, _, rfl, by omega, by unfold NN at *; omega, in_it (walk_range (lo := 0) (n := m.toNat)) (fun j H3 => Same H H3 ∧ H3 D = some (.lst (iv ((List.range i).flatMap fun i => List.replicate (at_ ls i).toNat (i : Int)) ++ iv (List.replicate j (i : Int))))) ⟨sm.trans smt, by rw [smt _ _ hD]; simp [iv]⟩ (fun _ _ _ _ => trivial) ?_ ?_⟩
    · rintro j x H3 H4 hj ⟨sm3, hD3⟩ ⟨rfl, rfl⟩
      refine ⟨rfl, _, rfl, tick sm3 nD hD3 (fun _ _ e => e) ?_ ?_⟩
      · rw [List.append_assoc]; simp [iv, List.replicate_succ']
      · rw [List.length_append, iv_len, iv_len, List.length_replicate, rep_pre hL (by omega)]; omega
    · rintro H3 ⟨sm3, hD3⟩
      refine ⟨sm3, ?_⟩
      rw [hD3, ← flatR, at_some hm]
  · rintro H1 ⟨sm, hD⟩
    rw [iv_len] at hD
    exact q _ rfl H1 D sm nD hD
end
end K11

namespace K11
open PySem PySem.Spec PyProof.Rows L2
/-- the marked, the others, ahead of i -/
def ones (v : List Int) (i : Nat) : Int := (((v.take i).filter fun x => decide (x ≠ 0)).length : Nat)
def zers (v : List Int) (i : Nat) : Int := (((v.take i).filter fun x => decide (x = 0)).length : Nat)
theorem ones_succ {v : List Int} {i : Nat} {m : Int} (h : v[i]? = some m) : ones v (i + 1) = if m = 0 then ones v i else ones v i + 1 := by
  unfold ones
  rw [List.take_add_one, h, List.filter_append]
  by_cases c : m = 0 <;> simp [c]
theorem zers_succ {v : List Int} {i : Nat} {m : Int} (h : v[i]? = some m) : zers v (i + 1) = if m = 0 then zers v i + 1 else zers v i := by
  unfold zers
  rw [List.take_add_one, h, List.filter_append]
  by_cases c : m = 0 <;> simp [c]
theorem iteT' {c : Bool} {A B : Prop} (h : c = true) (q : A) : if c = true then A else B := by rw [h]; exact q
theorem iteF' {c : Bool} {A B : Prop} (h : c = false) (q : B) : if c = true then A else B := by rw [h]; exact q
def weaveI (v : List Int) (i : Nat) : Int := if at_ v i = 0 then ones v v.length + zers v i else ones v i
section
variable {P : Program} {w : World} {K : PySem.W.Frag} {mg : Str → Option Value} {base : Heap} {a : Ad}
theorem ok_where (T : Txt w K mg a) : FnOk P w K mg base (L2.CX P w) 1 a.where_.1 a.where_.2 ["extra", "inputs"] (spIn a.TrapError (fun ex xss => ∃ b v, ex = .bl b ∧ xss = [v] ∧ v.length ≤ NN) (fun ex xss => match ex with | .bl b => some ((List.range (xss.headD []).length).flatMap fun i => if decide (at_ (xss.headD []) i ≠ 0) = b then [(i : Int)] else []) | _ => none) K) := by
  refine T.where_.F.okX sc_where (fun vs H Q E h => h.len) (fun cdv A outer s H vs Q E hr h => ?_)
  obtain ⟨ex, p, as, xss, rfl, hp, hv, hpr, q, e⟩ := h
  have nd := sc_where.nd
  obtain ⟨bb, v, rfl, rfl, hl⟩ := hpr
  obtain ⟨b, rfl, hb, hb'⟩ := hv.one
  refine ⟨_, (pss_one (ps_ret (pe_lc (own := [("index", 2), ("item", 3)]) rfl nd (pi_enum (by rfl) T.enumerate (pa_cons (pe_ix ix_list (pv 1) pe_int (fun _ _ => rfl)) pa_nil)) (blkOk_by (N := ["extra", "inputs", "index", "item"]) (sc := defScope s_where) (by decide +kernel)) (fun _ _ _ _ _ => (pg_tupK (K := K) (n := 2) rfl rfl (pgs_cons (pg_name (i := 2) nd rfl (Or.inl rfl)) (pgs_cons (pg_name (i := 3) nd rfl (Or.inl rfl)) pgs_nil)))) (fun _ _ _ _ _ => (pts_one (pt_cmpR op_eq (pe_cmpR op_ne (pv 3) pe_int (nomark _)) (pv 0) (nomark _)))) (fun _ _ _ _ _ => (pv 2))))), ?_⟩
  refine ⟨_, rfl, p, _, _, _, rfl, rfl, hp, rfl, b, _, rfl, hb, fun D nD => lc_it (walk_enum (K := K) (a := b) (xs := iv v)) (fun i H1 => Same H H1 ∧ H1 D = some (.lst (iv ((List.range i).flatMap fun i => if decide (at_ v i ≠ 0) = bb then [(i : Int)] else [])))) ⟨same_new nD _, upd_same⟩ (fun i H1 _ h => h.1.seq hb) ?_ ?_⟩
  · rintro i x H1 H2 hi ⟨sm, hD⟩ ⟨t, _, _, rfl, nt, rfl, e1, hx⟩
    cases e1
    obtain ⟨m, hm, rfl⟩ := iv_get hx
    have il := (List.getElem?_eq_some_iff.mp hm).1
    have smt := same_new nt (.tup [.int (i : Nat), .int m])
    have len : ∀ j, ((List.range j).flatMap fun i => if decide (at_ v i ≠ 0) = bb then [(i : Int)] else []).length ≤ j := fun j => by
      induction j with
      | zero => simp
      | succ j ih =>
        rw [List.range_succ, List.flatMap_append, List.length_append]
        simp only [List.flatMap_cons, List.flatMap_nil, List.append_nil]
        have : (if decide (at_ v j ≠ 0) = bb then [(j : Int)] else []).length ≤ 1 := by split <;> simp
        omega
    refine ⟨t, _, rfl, .inl (.inl upd_same), rfl, _, _, rfl, _, _, rfl, rfl, rfl, _, rfl, rfl, _, rfl, rfl, _, rfl, ?_⟩
    have tst : (decide ((V.bl !decide (V.int m = V.int 0)) = V.bl bb)) = decide (decide (at_ v i ≠ 0) = bb) := by
      rw [at_some hm]
      by_cases c : m = 0 <;> cases bb <;> simp [c]
    by_cases c : decide (at_ v i ≠ 0) = bb
    · refine ifT (by rw [tst]; exact decide_eq_true c) ?_
      refine ⟨_, rfl, tick (sm.trans smt) nD (smt _ _ hD) (fun _ _ e => e) ?_ ?_⟩
      · rw [← flatR, if_pos c]; rfl
      · rw [iv_len]; have := len (i + 1); omega
    · refine ifF (by rw [tst]; exact decide_eq_false c) ?_
      refine ⟨sm.trans smt, ?_⟩
      rw [← flatR, if_neg c]
      simpa using smt _ _ hD
  · rintro H1 ⟨sm, hD⟩
    rw [iv_len] at hD
    exact q _ rfl H1 D sm nD hD
theorem ok_weave (T : Txt w K mg a) : FnOk P w K mg base (L2.CX P w) 1 a.weave.1 a.weave.2 ["_", "inputs"] (spIn a.TrapError (fun _ xss => ∃ v, xss = [v] ∧ v.length ≤ NN) (fun _ xss => some ((List.range (xss.headD []).length).map (weaveI (xss.headD [])))) K) := by
  refine T.weave.F.okX sc_weave (fun vs H Q E h => h.len) (fun cdv A outer s H vs Q E hr h => ?_)
  obtain ⟨ex, p, as, xss, rfl, hp, hv, hpr, q, e⟩ := h
  have nd := sc_weave.nd
  obtain ⟨v, rfl, hl⟩ := hpr
  obtain ⟨b, rfl, hb, hb'⟩ := hv.one
  refine ⟨_, (pss_cons (ps_set (i := 2) nd rfl (Or.inl rfl) pe_int)
  (pss_cons (ps_set (i := 4) nd rfl (Or.inl rfl) (pe_callB call_len_seq (by rfl) T.len PySem.boot_len (pa_cons (pe_lc (own := [("item", 3)]) (g := gName 3) rfl nd (pi_list (pe_ix ix_list (pv 1) pe_int (fun _ _ => rfl))) (blkOk_by (N := ["_", "inputs", "marked", "item", "others", "numbers"]) (sc := defScope s_weave) (by decide +kernel)) (fun _ _ _ _ _ => (pg_name (i := 3) nd rfl (Or.inl rfl))) (fun _ _ _ _ _ => (pts_one (pt_cmpR op_ne (pv 3) pe_int (nomark _)))) (fun _ _ _ _ _ => (pv 3))) pa_nil)))
  (pss_cons (ps_set (i := 5) nd rfl (Or.inl rfl) (pe_lst pa_nil))
  (pss_cons (ps_for (L2.passes_of rfl) rfl (pi_list (pe_ix ix_list (pv 1) pe_int (fun _ _ => rfl))) (pg_name (i := 3) nd rfl (Or.inl rfl)) (pss_one (ps_if (pt_cmpR op_ne (pv 3) pe_int (nomark _)) (pss_cons (ps_expr (pe_bm PySem.F.plainAttrs_list PySem.F.slot_list_append PySem.F.type_list_append mt_append (pv 5) (pa_cons (pv 2) pa_nil)))
  (pss_one (ps_aug (i := 2) nd rfl (Or.inl rfl) pe_int ip_add))) (pss_cons (ps_expr (pe_bm PySem.F.plainAttrs_list PySem.F.slot_list_append PySem.F.type_list_append mt_append (pv 5) (pa_cons (pv 4) pa_nil)))
  (pss_one (ps_aug (i := 4) nd rfl (Or.inl rfl) pe_int ip_add))))))
  (pss_one (ps_ret (pv 5))))))), ?_⟩
  refine ⟨_, rfl, p, _, _, _, rfl, rfl, hp, rfl, b, rfl, ⟨_, hb⟩, fun D nD => lc_it (walk_list (K := K) (a := b) (xs := iv v)) (fun i H1 => Same H H1 ∧ H1 D = some (.lst (iv ((v.take i).filter fun x => decide (x ≠ 0))))) ⟨same_new nD _, by rw [List.take_zero]; exact upd_same⟩ (fun i H1 _ h => h.1.seq hb) ?_ ?_⟩
  · rintro i x H1 H2 hi ⟨sm, hD⟩ ⟨rfl, hx⟩
    obtain ⟨m, hm, rfl⟩ := iv_get hx
    refine ⟨rfl, _, rfl, rfl, _, rfl, ?_⟩
    by_cases c : m = 0
    · refine ifF (by rw [c]; decide) ⟨sm, ?_⟩
      rw [List.take_add_one, hm, List.filter_append]
      simpa [c] using hD
    · refine ifT (by simpa using c) ?_
      refine ⟨_, rfl, tick sm nD hD (fun _ _ e => e) ?_ ?_⟩
      · rw [List.take_add_one, hm, List.filter_append]; simp [iv, c]
      · rw [iv_len]; exact Nat.le_trans (List.length_filter_le _ _) (by rw [List.length_take]; omega)
  · rintro H1 ⟨sm, hD⟩
    rw [iv_len, List.take_length] at hD
    refine ⟨D, _, rfl, .inl (SqL.of hD), ?_⟩
    refine ⟨(by show 0 ≤ sizeLine; decide), fun r nr => ?_⟩
    have sr := same_new nr (.lst [])
    have r0 : H r = none := by
      cases z : H r with
      | none => rfl
      | some o => have := sm _ _ z; rw [this] at nr; cases nr
    have e0 : ((iv (v.filter fun x => decide (x ≠ 0))).length : Int) = ones v v.length := by rw [iv_len]; unfold ones; rw [List.take_length]
    refine ⟨_, rfl, p, _, _, _, rfl, rfl, sr.seq (sm.seq hp), rfl, b, rfl, ⟨_, sr.seq (sm.seq hb)⟩, for_list (K := K) (a := b) (xs := iv v) (fun i σ H2 => ∃ v3 : Option V, σ = [some ex, some (.ref p), some (.int (ones v i)), v3, some (.int (ones v v.length + zers v i)), some (.ref r)] ∧ Same H H2 ∧ H2 r = some (.lst (iv ((List.range i).map (weaveI v))))) ⟨none, ?_, sm.trans sr, upd_same⟩ (fun i σ H1 _ h => by obtain ⟨_, _, s, _⟩ := h; exact s.seq hb) ?_ ?_⟩
    · have z0 : ones v v.length + zers v 0 = ((iv (v.filter fun x => decide (x ≠ 0))).length : Int) := by rw [e0]; simp [zers]
      rw [z0]
      rfl
    · rintro i y σ H2 hi ⟨v3, rfl, s2, hr2⟩
      obtain ⟨m, hm, rfl⟩ := iv_get hi
      have il := (List.getElem?_eq_some_iff.mp hm).1
      have bound : (iv ((List.range i).map (weaveI v))).length < sizeLine := by
        rw [iv_len, List.length_map, List.length_range]
        exact Nat.lt_of_lt_of_le (Nat.lt_of_lt_of_le il hl) (by decide)
      have nxt : ∀ k : Int, k = weaveI v i → (Same H (upd H2 r (.lst (iv ((List.range i).map (weaveI v)) ++ [.int k]))) ∧ (upd H2 r (.lst (iv ((List.range i).map (weaveI v)) ++ [.int k]))) r = some (.lst (iv ((List.range (i + 1)).map (weaveI v))))) := fun k ek => by
        refine ⟨fun c o ec => ?_, ?_⟩
        · rw [upd_ne (ne_of_none ec r0)]; exact s2 _ _ ec
        · rw [upd_same, ek, mapR]
      refine ⟨_, rfl, rfl, _, rfl, ?_⟩
      have wi : weaveI v i = if m = 0 then ones v v.length + zers v i else ones v i := by unfold weaveI; rw [at_some hm]
      by_cases c : m = 0
      · refine ifF (by rw [c]; decide) ?_
        refine ⟨_, rfl, .inl ⟨rfl, _, SqL.of hr2⟩, _, rfl, r, _, _, rfl, rfl, hr2, bound, _, rfl, _, _, rfl, rfl, some (.int m), ?_, nxt _ (by rw [wi, if_pos c])⟩
        rw [ones_succ hm, zers_succ hm, if_pos c, if_pos c, ← Int.add_assoc]; rfl
      · refine ifT (by simpa using c) ?_
        refine ⟨_, rfl, .inl ⟨rfl, _, SqL.of hr2⟩, _, rfl, r, _, _, rfl, rfl, hr2, bound, _, rfl, _, _, rfl, rfl, some (.int m), ?_, nxt _ (by rw [wi, if_neg c])⟩
        rw [ones_succ hm, zers_succ hm, if_neg c, if_neg c]; rfl
    · rintro σ H2 ⟨v3, rfl, s2, hr2⟩
      rw [iv_len] at hr2
      exact ⟨_, rfl, q _ rfl H2 r s2 r0 hr2⟩
theorem ok_need_range (T : Txt w K mg a) : FnOk P w K mg base (L2.CX P w) 1 a.need_range.1 a.need_range.2 ["_", "inputs"] (spIn a.TrapError (fun _ xss => ∃ v, xss = [v] ∧ v.length ≤ NN) (fun _ xss => if ∀ x ∈ xss.headD [], 0 ≤ x ∧ x ≤ 1000 then some (xss.headD []) else none) K) := by
  refine T.need_range.F.okX sc_need_range (fun vs H Q E h => h.len) (fun cdv A outer s H vs Q E hr h => ?_)
  obtain ⟨ex, p, as, xss, rfl, hp, hv, hpr, q, e⟩ := h
  have nd := sc_need_range.nd
  obtain ⟨v, rfl, hl⟩ := hpr
  obtain ⟨b, rfl, hb, hb'⟩ := hv.one
  refine ⟨_, (pss_cons (ps_for (L2.passes_of rfl) rfl (pi_list (pe_ix ix_list (pv 1) pe_int (fun _ _ => rfl))) (pg_name (i := 2) nd rfl (Or.inl rfl)) (pss_one (ps_if (pt_not (pt_chain op_le op_le pe_int (pv 2) (pe_gv rfl T.limit))) (pss_one (ps_raise rfl (takes_of rfl rfl rfl rfl) (pmk_own PySem.F.excBase_ValueError T.xT T.gTrapError T.kT (raises_own T.bT T.tT) rfl))) pss_nil)))
  (pss_one (ps_ret (pe_callTy call_list_of (by rfl) T.list (by decide +kernel) (pa_cons (pe_ix ix_list (pv 1) pe_int (fun _ _ => rfl)) pa_nil))))), ?_⟩
  refine ⟨_, rfl, p, _, _, _, rfl, rfl, hp, rfl, b, rfl, ⟨_, hb⟩, for_list (K := K) (a := b) (xs := iv v) (fun i σ H1 => ∃ v2 : Option V, σ = [some ex, some (.ref p), v2] ∧ H1 = H ∧ ∀ x ∈ v.take i, 0 ≤ x ∧ x ≤ 1000) ⟨none, rfl, rfl, by simp⟩ (fun i σ H1 _ h => by obtain ⟨_, _, rfl, _⟩ := h; exact hb) ?_ ?_⟩
  · rintro i y σ H1 hi ⟨v2, rfl, rfl, all⟩
    obtain ⟨m, hm, rfl⟩ := iv_get hi
    have mem := List.mem_of_getElem? hm
    refine ⟨_, rfl, _, _, rfl, rfl, _, rfl, ?_⟩
    have bad : ¬ (0 ≤ m ∧ m ≤ 1000) → E (.ref a.TrapError) none H1 := fun c => e (if_neg fun z => c (z m mem)) H1 fun _ _ x => x
    by_cases c1 : 0 ≤ m
    · refine iteT' (decide_eq_true c1) ?_
      refine ⟨_, _, rfl, rfl, _, rfl, ?_⟩
      by_cases c2 : m ≤ 1000
      · refine ifF (by rw [decide_eq_true c2]; rfl) ?_
        refine ⟨some (.int m), rfl, rfl, fun x hx => ?_⟩
        rw [List.take_add_one, hm] at hx
        rcases List.mem_append.mp hx with hx | hx
        · exact all x hx
        · obtain rfl : x = m := by simpa using hx
          exact ⟨c1, c2⟩
      · exact ifT (by rw [decide_eq_false c2]; rfl) (bad fun z => c2 z.2)
    · refine iteF' (decide_eq_false c1) ?_
      exact ⟨_, rfl, ifT rfl (bad fun z => c1 z.1)⟩
  · rintro σ H1 ⟨v2, rfl, rfl, all⟩
    rw [iv_len, List.take_length] at all
    exact ⟨_, rfl, p, _, _, _, rfl, rfl, hp, rfl, b, _, rfl, .inl hb, fun l nl => q v (if_pos all) _ l (same_new nl _) nl upd_same⟩
end
end K11

namespace K11
open PySem PySem.Spec PyProof.Rows L2
/-! lists of numbers as data -/
def nsd (ns : List Int) : PyData := .list (ns.map .int)
theorem nsd_dp {K : PySem.W.Frag} {H : Hp} {p : Addr} {ns : List Int} (h : SqL K H p (iv ns)) : Dp K H (.ref p) (nsd ns) := by
  refine .lst h ?_
  clear h
  induction ns with
  | nil => exact .nil
  | cons n r ih => exact .cons (.int n) ih
theorem nsd_lay (ns : List Int) : (nsd ns).canLay0 = true := by
  show PyData.canLayAll0 (ns.map .int) = true
  induction ns with
  | nil => rfl
  | cons n r ih => exact ih
theorem nsd_dep (ns : List Int) : (nsd ns).depth ≤ 1 := by
  show PyData.depthAll (ns.map .int) + 1 ≤ 1
  have : PyData.depthAll (ns.map .int) = 0 := by
    induction ns with
    | nil => rfl
    | cons n r ih => show max 0 (PyData.depthAll (r.map .int)) = 0; rw [ih]; rfl
  omega
theorem nsd_shaped (ns : List Int) : SeqAt.shaped (nsd ns) = true := by
  unfold SeqAt.shaped
  rw [nsd_lay, decide_eq_true (Nat.le_trans (nsd_dep ns) (by decide))]
  rfl
theorem nsd_eqv : ∀ (ns ms : List Int), PyData.eqv (nsd ns) (nsd ms) = decide (ns = ms) := by
  intro ns ms
  show PyData.eqvAll (ns.map .int) (ms.map .int) = _
  induction ns generalizing ms with
  | nil => cases ms <;> simp [PyData.eqvAll]
  | cons n r ih =>
    cases ms with
    | nil => simp [PyData.eqvAll]
    | cons m t =>
      simp [PyData.eqvAll, PyData.eqv, ih]
      rfl
theorem seq_upd {K : PySem.W.Frag} {H : Hp} {p r : Addr} {xs : List V} {o : HO} (n : p ≠ r) (h : SqL K H p xs) : SqL K (upd H r o) p xs := by
  rcases h with (h | ⟨o', h⟩) | h
  · exact .inl (.inl (by rw [upd_ne n]; exact h))
  · exact .inl (.inr ⟨o', by rw [upd_ne n]; exact h⟩)
  · exact .inr h
theorem pre_get {ls : List Int} {i : Nat} (h : i < ls.length) : ((List.range ls.length).map (pre ls))[i]? = some (pre ls i) := by
  rw [List.getElem?_map, List.getElem?_range h]; rfl
section
variable {P : Program} {w : World} {K : PySem.W.Frag} {mg : Str → Option Value} {base : Heap} {a : Ad}
theorem ok_need_same (T : Txt w K mg a) : FnOk P w K mg base (L2.CX P w) 1 a.need_same.1 a.need_same.2 ["_", "inputs"] (spIn a.TrapError (fun _ xss => ∃ v u, xss = [v, u]) (fun _ xss => if xss.headD [] = xss.getD 1 [] then some (xss.headD []) else none) K) := by
  refine T.need_same.F.okX sc_need_same (fun vs H Q E h => h.len) (fun cdv A outer s H vs Q E hr h => ?_)
  obtain ⟨ex, p, as, xss, rfl, hp, hv, hpr, q, e⟩ := h
  have nd := sc_need_same.nd
  obtain ⟨v, u, rfl⟩ := hpr
  obtain ⟨b, c, rfl, hb, hc, hb', hc'⟩ := hv.two
  refine ⟨_, (pss_cons (ps_if (pt_cmpR (op_neD hr.units) (pe_ix ix_list (pv 1) pe_int (fun _ _ => rfl)) (pe_ix ix_list (pv 1) pe_int (fun _ _ => rfl)) (nomark _)) (pss_one (ps_raise rfl (takes_of rfl rfl rfl rfl) (pmk_own PySem.F.excBase_ValueError T.xT T.gTrapError T.kT (raises_own T.bT T.tT) rfl))) pss_nil)
  (pss_one (ps_ret (pe_callTy call_list_of (by rfl) T.list (by decide +kernel) (pa_cons (pe_ix ix_list (pv 1) pe_int (fun _ _ => rfl)) pa_nil))))), ?_⟩
  refine ⟨_, rfl, p, _, _, _, rfl, rfl, hp, rfl, _, rfl, p, _, _, _, rfl, rfl, hp, rfl, _, _, nsd_dp hb, nsd_dp hc, nsd_shaped _, nsd_shaped _, _, rfl, ?_⟩
  by_cases c1 : v = u
  · refine ifF (by rw [nsd_eqv, decide_eq_true c1]; rfl) ?_
    exact ⟨_, rfl, p, _, _, _, rfl, rfl, hp, rfl, b, _, rfl, .inl hb, fun l nl => q v (if_pos c1) _ l (same_new nl _) nl upd_same⟩
  · exact ifT (by rw [nsd_eqv, decide_eq_false c1]; rfl) (e (if_neg c1) H fun _ _ x => x)
theorem ok_place (T : Txt w K mg a) : FnOk P w K mg base (L2.CX P w) 2 a.place.1 a.place.2 ["_", "inputs"] (spIn a.TrapError (fun _ xss => ∃ ls ps, xss = [ls, ps] ∧ Lens ls ∧ ps.length = ls.length) (fun _ xss => if ∀ i < (xss.headD []).length, 0 ≤ at_ (xss.getD 1 []) i ∧ at_ (xss.getD 1 []) i < at_ (xss.headD []) i then some ((List.range (xss.headD []).length).map fun i => pre (xss.headD []) i + at_ (xss.getD 1 []) i) else none) K) := by
  refine T.place.F.okX sc_place (fun vs H Q E h => h.len) (fun cdv A outer s H vs Q E hr h => ?_)
  obtain ⟨ex, p, as, xss, rfl, hp, hv, hpr, q, e⟩ := h
  have nd := sc_place.nd
  have G_starts_of := ok_starts_of (P := P) (w := w) (base := base) T
  obtain ⟨ls, ps, rfl, hL, hlen⟩ := hpr
  obtain ⟨b, c, rfl, hb, hc, hb', hc'⟩ := hv.two
  refine ⟨_, (pss_cons (ps_asg (pv 1) (pg_unl rfl (pgs_cons (pg_name (i := 2) nd rfl (Or.inl rfl)) (pgs_cons (pg_name (i := 3) nd rfl (Or.inl rfl)) pgs_nil))))
  (pss_cons (ps_set (i := 4) nd rfl (Or.inl rfl) (pe_lst pa_nil))
  (pss_cons (ps_for (L2.passes_of rfl) rfl (ZN.pi_zip3 (by rfl) T.zip (pa_cons (pe_call G_starts_of (hr.mono (by omega)) rfl T.starts_of.g T.starts_of.F.kp T.starts_of.b .nil pass0 (pa_cons (pv 2) pa_nil)) (pa_cons (pv 2) (pa_cons (pv 3) pa_nil)))) (pg_tup rfl (pgs_cons (pg_name (i := 5) nd rfl (Or.inl rfl)) (pgs_cons (pg_name (i := 6) nd rfl (Or.inl rfl)) (pgs_cons (pg_name (i := 7) nd rfl (Or.inl rfl)) pgs_nil)))) (pss_cons (ps_if (pt_not (pt_chain op_le op_lt pe_int (pv 7) (pv 6))) (pss_one (ps_raise rfl (takes_of rfl rfl rfl rfl) (pmk_own PySem.F.excBase_ValueError T.xT T.gTrapError T.kT (raises_own T.bT T.tT) rfl))) pss_nil)
  (pss_one (ps_expr (pe_bm PySem.F.plainAttrs_list PySem.F.slot_list_append PySem.F.type_list_append mt_append (pv 4) (pa_cons (pe_op op_add (pv 5) (pv 7)) pa_nil))))))
  (pss_one (ps_ret (pv 4)))))), ?_⟩
  refine ⟨_, rfl, p, _, rfl, hp, rfl, _, _, rfl, _, _, rfl, rfl, (by show 0 ≤ sizeLine; decide), fun r nr => ?_⟩
  have s1 := same_new nr (.lst [])
  refine ⟨_, rfl, b, ls, rfl, s1.seq hb, hL.ln, fun H2 st s2 nst hst => ?_⟩
  have s02 := s1.trans s2
  have hst' : SqL K H2 st (iv ((List.range ls.length).map (pre ls))) := SqL.of hst
  have nrs : st ≠ r := (ne_of_none upd_same nst).symm
  have n0 : (iv ((List.range ls.length).map (pre ls))).length = ls.length := by rw [iv_len, List.length_map, List.length_range]
  refine ⟨_, rfl, _, rfl, st, b, c, _, _, _, rfl, hst', s02.seq hb, s02.seq hc, for_it (walk_z3 (K := K) (a := st) (b := b) (c := c) (xs := iv ((List.range ls.length).map (pre ls))) (ys := iv ls) (zs := iv ps) (n := ls.length) n0 (iv_len _) (by rw [iv_len]; exact hlen)) (fun i σ H3 => ∃ v5 v6 v7 : Option V, σ = [some ex, some (.ref p), some (.ref b), some (.ref c), some (.ref r), v5, v6, v7] ∧ Same H H3 ∧ SqL K H3 st (iv ((List.range ls.length).map (pre ls))) ∧ H3 r = some (.lst (iv ((List.range i).map fun i => pre ls i + at_ ps i))) ∧ ∀ j < i, 0 ≤ at_ ps j ∧ at_ ps j < at_ ls j) ⟨none, none, none, rfl, s02, hst', s2 _ _ upd_same, fun j hj => absurd hj (Nat.not_lt_zero _)⟩ (fun i σ H3 _ h => by obtain ⟨_, _, _, _, s, t, _⟩ := h; exact ⟨t, s.seq hb, s.seq hc⟩) ?_ ?_⟩
  · rintro i x σ H3 H4 hi ⟨v5, v6, v7, rfl, s3, h3, hr3, all⟩ ⟨t, x1, x2, x3, rfl, nt, rfl, e1, e2, e3⟩
    obtain ⟨k1, f1, rfl⟩ := iv_get e1
    obtain ⟨k2, f2, rfl⟩ := iv_get e2
    obtain ⟨k3, f3, rfl⟩ := iv_get e3
    rw [pre_get hi] at f1
    obtain rfl : pre ls i = k1 := Option.some.inj f1
    obtain rfl := at_some f2
    obtain rfl := at_some f3
    have st' := same_new nt (.tup [.int (pre ls i), .int (at_ ls i), .int (at_ ps i)])
    refine ⟨t, _, rfl, .inl (.inl upd_same), rfl, _, _, rfl, _, _, rfl, _, _, rfl, rfl, ?_⟩
    refine ⟨_, rfl, _, _, rfl, rfl, _, rfl, ?_⟩
    have bad : ¬ (0 ≤ at_ ps i ∧ at_ ps i < at_ ls i) → E (.ref a.TrapError) none (upd H3 t (.tup [.int (pre ls i), .int (at_ ls i), .int (at_ ps i)])) := fun c => e (if_neg fun z => c (z i hi)) _ (s3.trans st')
    by_cases good : 0 ≤ at_ ps i ∧ at_ ps i < at_ ls i
    · refine iteT' (decide_eq_true good.1) ?_
      refine ⟨_, rfl, _, _, rfl, rfl, _, rfl, ?_⟩
      refine ifF (by rw [decide_eq_true good.2]; rfl) ?_
      refine ⟨_, rfl, .inl ⟨rfl, _, SqL.of (st' _ _ hr3)⟩, _, rfl, _, rfl, _, _, rfl, rfl, r, _, _, rfl, rfl, st' _ _ hr3, ?_, ?_⟩
      · rw [iv_len, List.length_map, List.length_range]
        exact Nat.lt_of_lt_of_le (Nat.lt_of_lt_of_le hi hL.ln) (by decide)
      refine ⟨some (.int (pre ls i)), some (.int (at_ ls i)), some (.int (at_ ps i)), rfl, fun c' o ec => ?_, ?_, ?_, fun j hj => ?_⟩
      · rw [upd_ne (ne_of_none ec nr)]; exact st' _ _ (s3 _ _ ec)
      · refine seq_upd nrs (st'.seq h3)
      · rw [mapR]; exact upd_same
      · rcases Nat.lt_succ_iff_lt_or_eq.mp hj with hj | rfl
        · exact all j hj
        · exact good
    · by_cases c1 : 0 ≤ at_ ps i
      · refine iteT' (decide_eq_true c1) ?_
        refine ⟨_, rfl, _, _, rfl, rfl, _, rfl, ?_⟩
        exact ifT (by rw [decide_eq_false fun z => good ⟨c1, z⟩]; rfl) (bad good)
      · refine iteF' (decide_eq_false c1) ?_
        exact ⟨_, rfl, ifT rfl (bad good)⟩
  · rintro σ H3 ⟨v5, v6, v7, rfl, s3, h3, hr3, all⟩
    exact ⟨_, rfl, q _ (if_pos all) H3 r s3 nr hr3⟩
end
end K11

namespace K11
open PySem PySem.Spec PyProof.Rows L2
theorem rgV_rng (lo n : Int) : rgV lo (lo + n) = iv (rng lo n) := by
  unfold rgV rng iv
  rw [show lo + n - lo = n by omega, List.map_map]
  rfl
theorem cut_iv (v : List Int) {s n : Int} (hs : 0 ≤ s) (hn : 0 ≤ n) (h : s + n ≤ v.length) : cutV (iv v) (some s) (some (s + n)) = iv ((v.drop s.toNat).take n.toNat) := by
  obtain ⟨a, rfl⟩ := Int.eq_ofNat_of_zero_le hs
  obtain ⟨b, rfl⟩ := Int.eq_ofNat_of_zero_le hn
  have e : (a : Int) + (b : Int) = ((a + b : Nat) : Int) := by omega
  unfold cutV
  rw [e, HT.sIx_nat, HT.sIx_nat, iv_len, Nat.min_eq_left (show a ≤ v.length by omega), Nat.min_eq_left (show a + b ≤ v.length by omega), show a + b - a = b by omega]
  simp [iv, List.map_take, List.map_drop]
def zipI (ls os : List Int) (i : Nat) : List Int := rng (pre ls i) (at_ ls i) ++ rng (ls.sum + pre os i) (at_ os i)
theorem zip_len {ls os : List Int} (hL : Lens ls) (hO : Lens os) (hl : os.length = ls.length) : ∀ i, i ≤ ls.length → ((List.range i).flatMap (zipI ls os)).length = (pre ls i + pre os i).toNat
  | 0, _ => by simp [pre]
  | i + 1, h => by
    have ih := zip_len hL hO hl i (by omega)
    have a := hL.prf i
    have b := hL.seg (i := i) (by omega)
    have c := hO.prf i
    have d := hO.seg (i := i) (by omega)
    rw [List.range_succ, List.flatMap_append, List.length_append, ih, pre_succ (by omega), pre_succ (by omega)]
    simp only [List.flatMap_cons, List.flatMap_nil, List.append_nil, zipI, List.length_append, rng_len]
    omega
def sumI (ls v : List Int) (i : Nat) : Int := wrap ((v.drop (pre ls i).toNat).take (at_ ls i).toNat).sum
def pickI (ls sg : List Int) (j : Nat) : List Int := rng (pre ls (at_ sg j).toNat) (at_ ls (at_ sg j).toNat)
theorem flat_mono {G : Nat → List Int} {i n : Nat} (h : i ≤ n) : ((List.range i).flatMap G).length ≤ ((List.range n).flatMap G).length := by
  induction n with
  | zero => obtain rfl : i = 0 := by omega
            exact Nat.le_refl _
  | succ n ih =>
    by_cases c : i = n + 1
    · rw [c]; exact Nat.le_refl _
    · rw [List.range_succ, List.flatMap_append, List.length_append]
      have := ih (by omega)
      omega
section
variable {P : Program} {w : World} {K : PySem.W.Frag} {mg : Str → Option Value} {base : Heap} {a : Ad}
theorem ok_zip_segments (T : Txt w K mg a) : FnOk P w K mg base (L2.CX P w) 2 a.zip_segments.1 a.zip_segments.2 ["_", "inputs"] (spIn a.TrapError (fun _ xss => ∃ ls os, xss = [ls, os] ∧ Lens ls ∧ Lens os ∧ os.length = ls.length ∧ ls.sum + os.sum ≤ NN) (fun _ xss => some ((List.range (xss.headD []).length).flatMap (zipI (xss.headD []) (xss.getD 1 [])))) K) := by
  refine T.zip_segments.F.okX sc_zip_segments (fun vs H Q E h => h.len) (fun cdv A outer s H vs Q E hr h => ?_)
  obtain ⟨ex, p, as, xss, rfl, hp, hv, hpr, q, e⟩ := h
  have nd := sc_zip_segments.nd
  have G_starts_of := ok_starts_of (P := P) (w := w) (base := base) T
  obtain ⟨ls, os, rfl, hL, hO, hlen, hsum⟩ := hpr
  obtain ⟨b, c, rfl, hb, hc, hb', hc'⟩ := hv.two
  refine ⟨_, (pss_cons (ps_asg (pv 1) (pg_unl rfl (pgs_cons (pg_name (i := 2) nd rfl (Or.inl rfl)) (pgs_cons (pg_name (i := 3) nd rfl (Or.inl rfl)) pgs_nil))))
  (pss_cons (ps_set (i := 4) nd rfl (Or.inl rfl) (pe_callB (cr_sum rfl) (by rfl) T.sum (by decide +kernel) (pa_cons (pv 2) pa_nil)))
  (pss_cons (ps_set (i := 5) nd rfl (Or.inl rfl) (pe_lst pa_nil))
  (pss_cons (ps_for (L2.passes_of rfl) rfl (ZN.pi_zip4 (by rfl) T.zip (pa_cons (pe_call G_starts_of (hr.mono (by omega)) rfl T.starts_of.g T.starts_of.F.kp T.starts_of.b .nil pass0 (pa_cons (pv 2) pa_nil)) (pa_cons (pv 2) (pa_cons (pe_call G_starts_of (hr.mono (by omega)) rfl T.starts_of.g T.starts_of.F.kp T.starts_of.b .nil pass0 (pa_cons (pv 3) pa_nil)) (pa_cons (pv 3) pa_nil))))) (pg_tup rfl (pgs_cons (pg_name (i := 6) nd rfl (Or.inl rfl)) (pgs_cons (pg_name (i := 7) nd rfl (Or.inl rfl)) (pgs_cons (pg_name (i := 8) nd rfl (Or.inl rfl)) (pgs_cons (pg_name (i := 9) nd rfl (Or.inl rfl)) pgs_nil))))) (pss_cons (ps_expr (pe_bm PySem.F.plainAttrs_list PySem.F.slot_list_extend PySem.F.type_list_extend mt_extend (pv 5) (pa_cons (pe_listRg rfl (by rfl) T.list (prg_2 (by rfl) T.range (pv 6) (pe_op op_add (pv 6) (pv 7)))) pa_nil)))
  (pss_one (ps_expr (pe_bm PySem.F.plainAttrs_list PySem.F.slot_list_extend PySem.F.type_list_extend mt_extend (pv 5) (pa_cons (pe_listRg rfl (by rfl) T.list (prg_2 (by rfl) T.range (pe_op op_add (pv 4) (pv 8)) (pe_op op_add (pe_op op_add (pv 4) (pv 8)) (pv 9)))) pa_nil))))))
  (pss_one (ps_ret (pv 5))))))), ?_⟩
  refine ⟨_, rfl, p, _, rfl, hp, rfl, _, _, rfl, _, _, rfl, rfl, _, rfl, b, ls, rfl, hb, ?_⟩
  refine ⟨(by show 0 ≤ sizeLine; decide), fun r nr => ?_⟩
  have s1 := same_new nr (.lst [])
  refine ⟨_, rfl, b, ls, rfl, s1.seq hb, hL.ln, fun H2 st s2 nst hst => ?_⟩
  have s02 := s1.trans s2
  refine ⟨_, rfl, _, rfl, c, os, rfl, s02.seq hc, hO.ln, fun H3 ot s3 not_ hot => ?_⟩
  have s03 := s02.trans s3
  have hst' : SqL K H3 st (iv ((List.range ls.length).map (pre ls))) := SqL.of (s3 _ _ hst)
  have hot' : SqL K H3 ot (iv ((List.range os.length).map (pre os))) := SqL.of hot
  have nrs : st ≠ r := (ne_of_none upd_same nst).symm
  have nro : ot ≠ r := (ne_of_none (s2 _ _ upd_same) not_).symm
  have n0 : (iv ((List.range ls.length).map (pre ls))).length = ls.length := by rw [iv_len, List.length_map, List.length_range]
  have n1 : (iv ((List.range os.length).map (pre os))).length = ls.length := by rw [iv_len, List.length_map, List.length_range, hlen]
  refine ⟨_, rfl, st, b, ot, c, _, _, _, _, rfl, hst', s03.seq hb, hot', s03.seq hc, for_it (walk_z4 (K := K) (a := st) (b := b) (c := ot) (d := c) (xs := iv ((List.range ls.length).map (pre ls))) (ys := iv ls) (zs := iv ((List.range os.length).map (pre os))) (ws := iv os) (n := ls.length) n0 (iv_len _) n1 (by rw [iv_len]; exact hlen)) (fun i σ H4 => ∃ v6 v7 v8 v9 : Option V, σ = [some ex, some (.ref p), some (.ref b), some (.ref c), some (.int ls.sum), some (.ref r), v6, v7, v8, v9] ∧ Same H H4 ∧ SqL K H4 st (iv ((List.range ls.length).map (pre ls))) ∧ SqL K H4 ot (iv ((List.range os.length).map (pre os))) ∧ H4 r = some (.lst (iv ((List.range i).flatMap (zipI ls os))))) ⟨none, none, none, none, rfl, s03, hst', hot', s3 _ _ (s2 _ _ upd_same)⟩ (fun i σ H4 _ h => by obtain ⟨_, _, _, _, _, s, t, u, _⟩ := h; exact ⟨t, s.seq hb, u, s.seq hc⟩) ?_ ?_⟩
  · rintro i x σ H4 H5 hi ⟨v6, v7, v8, v9, rfl, s4, h4, o4, hr4⟩ ⟨t, x1, x2, x3, x4, rfl, nt, rfl, e1, e2, e3, e4⟩
    obtain ⟨k1, f1, rfl⟩ := iv_get e1
    obtain ⟨k2, f2, rfl⟩ := iv_get e2
    obtain ⟨k3, f3, rfl⟩ := iv_get e3
    obtain ⟨k4, f4, rfl⟩ := iv_get e4
    rw [pre_get hi] at f1
    obtain rfl : pre ls i = k1 := Option.some.inj f1
    rw [pre_get (by omega)] at f3
    obtain rfl : pre os i = k3 := Option.some.inj f3
    obtain rfl := at_some f2
    obtain rfl := at_some f4
    have st' := same_new nt (.tup [.int (pre ls i), .int (at_ ls i), .int (pre os i), .int (at_ os i)])
    have a1 := hL.prf i
    have a2 := hL.seg hi
    have a3 := hO.prf i
    have a4 := hO.seg (i := i) (by omega)
    have tot := zip_len hL hO hlen i (by omega)
    have b1 := (pre_le hL.mem (i + 1)).2
    have b2 := (pre_le hO.mem (i + 1)).2
    rw [pre_succ hi] at b1
    rw [pre_succ (by omega)] at b2
    have sl : NN ≤ 16777216 := by decide
    have sl' : NN ≤ sizeLine := by decide
    have z0 := sum_nn hL.mem
    refine ⟨t, _, rfl, .inl (.inl upd_same), rfl, _, _, rfl, _, _, rfl, _, _, rfl, _, _, rfl, rfl, ?_⟩
    refine ⟨_, rfl, .inl ⟨rfl, _, SqL.of (st' _ _ hr4)⟩, _, rfl, _, rfl, _, rfl, _, _, rfl, rfl, _, _, rfl, rfl, RgOk.of_le (by omega) (by omega) (by omega) (by omega), fun d hd => ?_⟩
    rw [rgV_rng]
    have sd := same_new hd (.lst (iv (rng (pre ls i) (at_ ls i))))
    refine ⟨r, d, _, _, rfl, rfl, sd _ _ (st' _ _ hr4), upd_same, ?_, ?_⟩
    · rw [iv_len, iv_len, tot, rng_len]; omega
    have hr5 : (upd (upd (upd H4 t (.tup [.int (pre ls i), .int (at_ ls i), .int (pre os i), .int (at_ os i)])) d (.lst (iv (rng (pre ls i) (at_ ls i))))) r (.lst (iv ((List.range i).flatMap (zipI ls os)) ++ iv (rng (pre ls i) (at_ ls i))))) r = some (.lst (iv ((List.range i).flatMap (zipI ls os)) ++ iv (rng (pre ls i) (at_ ls i)))) := upd_same
    have s5 : Same H (upd (upd (upd H4 t (.tup [.int (pre ls i), .int (at_ ls i), .int (pre os i), .int (at_ os i)])) d (.lst (iv (rng (pre ls i) (at_ ls i))))) r (.lst (iv ((List.range i).flatMap (zipI ls os)) ++ iv (rng (pre ls i) (at_ ls i))))) := fun c' o ec => by rw [upd_ne (ne_of_none ec nr)]; exact sd _ _ (st' _ _ (s4 _ _ ec))
    have h5 := seq_upd (o := .lst (iv ((List.range i).flatMap (zipI ls os)) ++ iv (rng (pre ls i) (at_ ls i)))) nrs ((st'.trans sd).seq h4)
    have o5 := seq_upd (o := .lst (iv ((List.range i).flatMap (zipI ls os)) ++ iv (rng (pre ls i) (at_ ls i)))) nro ((st'.trans sd).seq o4)
    generalize (upd (upd (upd H4 t (.tup [.int (pre ls i), .int (at_ ls i), .int (pre os i), .int (at_ os i)])) d (.lst (iv (rng (pre ls i) (at_ ls i))))) r (.lst (iv ((List.range i).flatMap (zipI ls os)) ++ iv (rng (pre ls i) (at_ ls i))))) = H6 at hr5 s5 h5 o5 ⊢
    refine ⟨_, rfl, .inl ⟨rfl, _, SqL.of hr5⟩, _, rfl, _, rfl, _, _, rfl, rfl, _, rfl, _, rfl, _, _, rfl, rfl, _, rfl, _, _, rfl, rfl, _, _, rfl, rfl, RgOk.of_le (by omega) (by omega) (by omega) (by omega), fun d2 hd2 => ?_⟩
    rw [rgV_rng]
    have sd2 := same_new hd2 (.lst (iv (rng (ls.sum + pre os i) (at_ os i))))
    refine ⟨r, d2, _, _, rfl, rfl, sd2 _ _ hr5, upd_same, ?_, _, _, _, _, rfl, ?_, seq_upd nrs (sd2.seq h5), seq_upd nro (sd2.seq o5), ?_⟩
    · rw [List.length_append, iv_len, iv_len, iv_len, tot, rng_len, rng_len]; omega
    · intro c' o ec
      rw [upd_ne (ne_of_none ec nr)]; exact sd2 _ _ (s5 _ _ ec)
    · rw [upd_same, List.append_assoc, ← flatR]
      simp [zipI, iv]
  · rintro σ H4 ⟨v6, v7, v8, v9, rfl, s4, h4, o4, hr4⟩
    exact ⟨_, rfl, q _ rfl H4 r s4 nr hr4⟩
theorem ok_sums (T : Txt w K mg a) : FnOk P w K mg base (L2.CX P w) 2 a.sums.1 a.sums.2 ["_", "inputs"] (spIn a.TrapError (fun _ xss => ∃ ls v, xss = [ls, v] ∧ Lens ls ∧ ls.sum = v.length) (fun _ xss => some ((List.range (xss.headD []).length).map (sumI (xss.headD []) (xss.getD 1 [])))) K) := by
  refine T.sums.F.okX sc_sums (fun vs H Q E h => h.len) (fun cdv A outer s H vs Q E hr h => ?_)
  obtain ⟨ex, p, as, xss, rfl, hp, hv, hpr, q, e⟩ := h
  have nd := sc_sums.nd
  have G_starts_of := ok_starts_of (P := P) (w := w) (base := base) T
  have G_wrapped := ok_wrapped (P := P) (w := w) (base := base) T
  obtain ⟨ls, v, rfl, hL, hsum⟩ := hpr
  obtain ⟨b, c, rfl, hb, hc, hb', hc'⟩ := hv.two
  refine ⟨_, (pss_cons (ps_asg (pv 1) (pg_unl rfl (pgs_cons (pg_name (i := 2) nd rfl (Or.inl rfl)) (pgs_cons (pg_name (i := 3) nd rfl (Or.inr rfl)) pgs_nil))))
  (pss_cons (ps_set (i := 4) nd rfl (Or.inl rfl) (pe_call G_starts_of (hr.mono (by omega)) rfl T.starts_of.g T.starts_of.F.kp T.starts_of.b .nil pass0 (pa_cons (pv 2) pa_nil)))
  (pss_one (ps_ret (pe_lc (own := [("start", 5), ("length", 6)]) (tt := tYes) rfl nd (pi_zip (by rfl) T.zip (pa_cons (pv 4) (pa_cons (pv 2) pa_nil))) (blkOk_by (N := ["_", "inputs", "lengths", "vector", "starts", "start", "length"]) (sc := defScope s_sums) (by decide +kernel)) (fun _ _ _ _ _ => (pg_tupK (K := K) (n := 2) rfl rfl (pgs_cons (pg_name (i := 5) nd rfl (Or.inl rfl)) (pgs_cons (pg_name (i := 6) nd rfl (Or.inl rfl)) pgs_nil)))) (fun _ _ _ _ _ => pts_nil) (fun _ _ _ _ _ => (pe_call G_wrapped (hr.mono (by omega)) rfl T.wrapped.g T.wrapped.F.kp T.wrapped.b .nil pass0 (pa_cons (pe_callB (cr_sumK (K := K) rfl rfl) (by rfl) T.sum (by decide +kernel) (pa_cons (pe_slice (sl_listK (K := K) rfl) (pv 3) (po_some (pv 5)) (po_some (pe_op op_add (pv 5) (pv 6)))) pa_nil)) pa_nil)))))))), ?_⟩
  refine ⟨_, rfl, p, _, rfl, hp, rfl, _, _, rfl, _, _, rfl, rfl, _, rfl, b, ls, rfl, hb, hL.ln, fun H2 st s2 nst hst => ?_⟩
  have hst' : SqL K H2 st (iv ((List.range ls.length).map (pre ls))) := SqL.of hst
  have n0 : (iv ((List.range ls.length).map (pre ls))).length = ls.length := by rw [iv_len, List.length_map, List.length_range]
  refine ⟨_, rfl, _, rfl, st, b, _, _, rfl, hst', s2.seq hb, fun D nD => lc_it (walk_zip (K := K) (a := st) (b := b) (xs := iv ((List.range ls.length).map (pre ls))) (ys := iv ls) (n := ls.length) (by rw [n0, iv_len, Nat.min_self])) (fun i H3 => Same H2 H3 ∧ H3 D = some (.lst (iv ((List.range i).map (sumI ls v))))) ⟨same_new nD _, upd_same⟩ (fun i H3 _ h => ⟨h.1.seq hst', h.1.seq (s2.seq hb)⟩) ?_ ?_⟩
  · rintro i x H3 H4 hi ⟨sm, hD⟩ ⟨t, x1, x2, rfl, nt, rfl, e1, e2⟩
    obtain ⟨k1, f1, rfl⟩ := iv_get e1
    obtain ⟨k2, f2, rfl⟩ := iv_get e2
    rw [pre_get hi] at f1
    obtain rfl : pre ls i = k1 := Option.some.inj f1
    obtain rfl := at_some f2
    have st' := same_new nt (.tup [.int (pre ls i), .int (at_ ls i)])
    have a1 := hL.prf i
    have a2 := hL.seg hi
    have b1 := (pre_le hL.mem (i + 1)).2
    rw [pre_succ hi] at b1
    refine ⟨t, _, rfl, .inl (.inl upd_same), rfl, _, _, rfl, _, _, rfl, rfl, rfl, ?_⟩
    refine ⟨_, rfl, _, rfl, _, rfl, _, rfl, _, rfl, _, _, rfl, rfl, _, rfl, c, _, rfl, (sm.trans st').seq (s2.seq hc), fun d hd => ?_⟩
    rw [cut_iv v a1.1 a2.1 (by omega)]
    have sd := same_new hd (.lst (iv ((v.drop (pre ls i).toNat).take (at_ ls i).toNat)))
    exact ⟨d, _, rfl, SqL.of upd_same, _, rfl, tick (sm.trans st') nD (st' _ _ hD) sd (mapR (sumI ls v) i) (by rw [iv_len, List.length_map, List.length_range]; have := hL.ln; omega)⟩
  · rintro H3 ⟨sm, hD⟩
    exact q _ rfl H3 D (s2.trans sm) (by
      cases z : H D with
      | none => rfl
      | some o => have := s2 _ _ z; rw [nD] at this; cases this) hD
theorem ok_pick (T : Txt w K mg a) : FnOk P w K mg base (L2.CX P w) 2 a.pick.1 a.pick.2 ["_", "inputs"] (spIn a.TrapError (fun _ xss => ∃ ls sg, xss = [ls, sg] ∧ Lens ls ∧ (∀ k ∈ sg, 0 ≤ k ∧ k < ls.length) ∧ ((List.range sg.length).flatMap (pickI ls sg)).length ≤ NN) (fun _ xss => some ((List.range (xss.getD 1 []).length).flatMap (pickI (xss.headD []) (xss.getD 1 [])))) K) := by
  refine T.pick.F.okX sc_pick (fun vs H Q E h => h.len) (fun cdv A outer s H vs Q E hr h => ?_)
  obtain ⟨ex, p, as, xss, rfl, hp, hv, hpr, q, e⟩ := h
  have nd := sc_pick.nd
  have G_starts_of := ok_starts_of (P := P) (w := w) (base := base) T
  obtain ⟨ls, sg, rfl, hL, hk, htot⟩ := hpr
  obtain ⟨b, c, rfl, hb, hc, hb', hc'⟩ := hv.two
  refine ⟨_, (pss_cons (ps_asg (pv 1) (pg_unl rfl (pgs_cons (pg_name (i := 2) nd rfl (Or.inr rfl)) (pgs_cons (pg_name (i := 3) nd rfl (Or.inl rfl)) pgs_nil))))
  (pss_cons (ps_set (i := 4) nd rfl (Or.inr rfl) (pe_call G_starts_of (hr.mono (by omega)) rfl T.starts_of.g T.starts_of.F.kp T.starts_of.b .nil pass0 (pa_cons (pv 2) pa_nil)))
  (pss_one (ps_ret (pe_lc2 (own := [("at", 5), ("index", 6)]) (vs1 := [6]) (g := gName 5) (tt := tYes) (g1 := gName 6) (tt1 := tYes) rfl nd (pi_list (pv 3)) (blkOk_by (N := ["_", "inputs", "lengths", "segments", "starts", "at", "index"]) (sc := defScope s_pick) (by decide +kernel)) (by decide) (fun _ _ _ _ _ => (pg_name (i := 5) nd rfl (Or.inl rfl))) (fun _ _ _ _ _ => pts_nil) (fun _ _ _ _ _ => (pi_range2 rfl T.range (pa_cons (pe_ix (ix_listK (K := K) rfl) (pv 4) (pv 5) (fun _ _ => rfl)) (pa_cons (pe_op op_add (pe_ix (ix_listK (K := K) rfl) (pv 4) (pv 5) (fun _ _ => rfl)) (pe_ix (ix_listK (K := K) rfl) (pv 2) (pv 5) (fun _ _ => rfl))) pa_nil)))) (fun _ _ _ _ _ => (pg_name (i := 6) nd rfl (Or.inl rfl))) (fun _ _ _ _ _ => pts_nil) (fun _ _ _ _ _ => (pv 6))))))), ?_⟩
  refine ⟨_, rfl, p, _, rfl, hp, rfl, _, _, rfl, _, _, rfl, rfl, _, rfl, b, ls, rfl, hb, hL.ln, fun H2 st s2 nst hst => ?_⟩
  have hst' : SqL K H2 st (iv ((List.range ls.length).map (pre ls))) := SqL.of hst
  refine ⟨_, rfl, c, rfl, ⟨_, s2.seq hc⟩, fun D nD => in_it (walk_list (K := K) (a := c) (xs := iv sg)) (fun i H3 => Same H2 H3 ∧ H3 D = some (.lst (iv ((List.range i).flatMap (pickI ls sg))))) ⟨same_new nD _, upd_same⟩ (fun i H3 _ h => h.1.seq (s2.seq hc)) ?_ ?_⟩
  · rintro i x H3 H4 hi ⟨sm, hD⟩ ⟨rfl, hx⟩
    obtain ⟨m, hm, rfl⟩ := iv_get hx
    have il := (List.getElem?_eq_some_iff.mp hm).1
    obtain ⟨m0, m1⟩ := hk m (List.mem_of_getElem? hm)
    obtain ⟨j, rfl⟩ := Int.eq_ofNat_of_zero_le m0
    have jl : j < ls.length := by omega
    have a1 := hL.prf j
    have a2 := hL.seg jl
    have sl : NN ≤ 16777216 := by decide
    have ej : at_ sg i = (j : Int) := at_some hm
    have gs : atI (iv ((List.range ls.length).map (pre ls))) (j : Int) = some (.int (pre ls j)) := atI_nat (get_iv (pre_get jl))
    have gl : atI (iv ls) (j : Int) = some (.int (at_ ls j)) := atI_nat (get_iv (at_get jl))
    have hst3 := sm.seq hst'
    have hb3 := sm.seq (s2.seq hb)
    refine ⟨rfl, _, rfl, _, rfl, st, _, _, _, rfl, rfl, hst3, gs, _, rfl, _, rfl, st, _, _, _, rfl, rfl, hst3, gs, _, rfl, _, rfl, b, _, _, _, rfl, rfl, hb3, gl, _, _, rfl, rfl, _, _, rfl, ⟨by omega, by omega, by omega, by omega⟩, in_it (walk_range (lo := pre ls j) (n := (pre ls j + at_ ls j - pre ls j).toNat)) (fun k H5 => Same H2 H5 ∧ H5 D = some (.lst (iv ((List.range i).flatMap (pickI ls sg)) ++ iv ((List.range k).map fun (k : Nat) => pre ls j + (k : Int))))) ⟨sm, by rw [hD]; simp [iv]⟩ (fun _ _ _ _ => trivial) ?_ ?_⟩
    · rintro k x H5 H6 hk2 ⟨sm5, hD5⟩ ⟨rfl, rfl⟩
      refine ⟨rfl, _, rfl, tick sm5 nD hD5 (fun _ _ e => e) ?_ ?_⟩
      · rw [List.append_assoc, ← mapR]
      · rw [List.length_append, iv_len, iv_len, List.length_map, List.length_range]
        have z1 := flat_mono (G := pickI ls sg) (i := i + 1) (n := sg.length) (by omega)
        rw [List.range_succ, List.flatMap_append, List.length_append] at z1
        have z2 : (pickI ls sg i).length = (at_ ls j).toNat := by unfold pickI; rw [rng_len, ej]; rfl
        simp only [List.flatMap_cons, List.flatMap_nil, List.append_nil] at z1
        rw [z2] at z1
        omega
    · rintro H5 ⟨sm5, hD5⟩
      refine ⟨sm5, ?_⟩
      rw [hD5, ← flatR]
      have : (pre ls j + at_ ls j - pre ls j).toNat = (at_ ls j).toNat := by omega
      rw [this]
      unfold pickI
      rw [ej]
      rfl
  · rintro H3 ⟨sm, hD⟩
    rw [iv_len] at hD
    exact q _ rfl H3 D (s2.trans sm) (by
      cases z : H D with
      | none => rfl
      | some o => have := s2 _ _ z; rw [nD] at this; cases this) hD
end
end K11

namespace K11
open PySem PySem.Spec PyProof.Rows L2
def calcI (k : Nat) (v u : List Int) (i : Nat) : Int := wrap ((opI k (at_ v i) (at_ u i)).getD 0)
theorem sgn_idx {k : Nat} {s : Str} (h : sgn[k]? = some s) : sgn.idxOf s = k := by
  match k, h with
  | 0, h => obtain rfl : ("+" : Str) = _ := Option.some.inj h; decide +kernel
  | 1, h => obtain rfl : ("-" : Str) = _ := Option.some.inj h; decide +kernel
  | 2, h => obtain rfl : ("*" : Str) = _ := Option.some.inj h; decide +kernel
  | 3, h => obtain rfl : ("/" : Str) = _ := Option.some.inj h; decide +kernel
  | 4, h => obtain rfl : ("mod" : Str) = _ := Option.some.inj h; decide +kernel
  | 5, h => obtain rfl : ("min" : Str) = _ := Option.some.inj h; decide +kernel
  | 6, h => obtain rfl : ("max" : Str) = _ := Option.some.inj h; decide +kernel
  | 7, h => obtain rfl : ("<" : Str) = _ := Option.some.inj h; decide +kernel
  | 8, h => obtain rfl : ("=" : Str) = _ := Option.some.inj h; decide +kernel
  | _ + 9, h => exact absurd h (by simp [sgn])
def calcR (k : Nat) (v u : List Int) : Option (List Int) := if ∀ i < v.length, opI k (at_ v i) (at_ u i) ≠ none then some ((List.range v.length).map (calcI k v u)) else none
section
variable {P : Program} {w : World} {K : PySem.W.Frag} {mg : Str → Option Value} {base : Heap} {a : Ad}
theorem ok_calc (T : Txt w K mg a) : FnOk P w K mg base (L2.CX P w) 3 a.calc_.1 a.calc_.2 ["extra", "inputs"] (spIn a.TrapError (fun ex xss => ∃ (k : Nat) (s : Str) (v u : List Int), ex = .str s ∧ sgn[k]? = some s ∧ xss = [v, u] ∧ u.length = v.length ∧ v.length ≤ NN ∧ (∀ n ∈ v, InR n) ∧ ∀ n ∈ u, InR n) (fun ex xss => match ex with | .str s => calcR (sgn.idxOf s) (xss.headD []) (xss.getD 1 []) | _ => none) K) := by
  refine T.calc_.F.okX sc_calc (fun vs H Q E h => h.len) (fun cdv A outer s H vs Q E hr h => ?_)
  obtain ⟨ex, p, as, xss, rfl, hp, hv, hpr, q, e⟩ := h
  have nd := sc_calc.nd
  have G_calculate := ok_calculate (P := P) (w := w) (base := base) T
  obtain ⟨k, s0, v, u, rfl, hk, rfl, hl, hn, hvi, hui⟩ := hpr
  obtain ⟨b, c, rfl, hb, hc, hb', hc'⟩ := hv.two
  have q : ∀ out, calcR k v u = some out → ∀ (H' : Hp) (q : Addr), Same H H' → H q = none → H' q = some (.lst (iv out)) → Q (.ref q) H' := fun out e => q out (by show calcR (sgn.idxOf s0) v u = _; rw [sgn_idx hk]; exact e)
  have e : calcR k v u = none → ∀ H', Same H H' → E (.ref a.TrapError) none H' := fun z => e (by show calcR (sgn.idxOf s0) v u = _; rw [sgn_idx hk]; exact z)
  refine ⟨_, (pss_one (ps_ret (LX.pe_lcX (EX := E) (own := [("a", 2), ("b", 3)]) (tt := tYes) rfl nd rfl rfl (takes_of rfl rfl rfl rfl) (pi_zip (by rfl) T.zip (pa_cons (pe_ix ix_list (pv 1) pe_int (fun _ _ => rfl)) (pa_cons (pe_ix ix_list (pv 1) pe_int (fun _ _ => rfl)) pa_nil))) (blkOk_by (N := ["extra", "inputs", "a", "b"]) (sc := defScope s_calc) (by decide +kernel)) (fun _ _ _ _ _ => (pg_tupK (K := K) (n := 2) rfl rfl (pgs_cons (pg_name (i := 2) nd rfl (Or.inl rfl)) (pgs_cons (pg_name (i := 3) nd rfl (Or.inl rfl)) pgs_nil)))) (fun _ _ _ _ _ => pts_nil) (fun _ _ _ _ _ _ hx => (pe_call G_calculate (hr.mono (by omega)) rfl T.calculate.g T.calculate.F.kp T.calculate.b .nil hx (pa_cons (pv 0) (pa_cons (pv 2) (pa_cons (pv 3) pa_nil)))))))), ?_⟩
  refine ⟨_, rfl, p, _, _, _, rfl, rfl, hp, rfl, _, rfl, p, _, _, _, rfl, rfl, hp, rfl, b, c, _, _, rfl, hb, hc, fun D nD => lc_it (walk_zip (K := K) (a := b) (b := c) (xs := iv v) (ys := iv u) (n := v.length) (by rw [iv_len, iv_len, hl, Nat.min_self])) (fun i H3 => Same H H3 ∧ H3 D = some (.lst (iv ((List.range i).map (calcI k v u)))) ∧ ∀ j < i, opI k (at_ v j) (at_ u j) ≠ none) ⟨same_new nD _, upd_same, fun j z => absurd z (Nat.not_lt_zero _)⟩ (fun i H3 _ h => ⟨h.1.seq hb, h.1.seq hc⟩) ?_ ?_⟩
  · rintro i x H3 H4 hi ⟨sm, hD, all⟩ ⟨t, x1, x2, rfl, nt, rfl, e1, e2⟩
    obtain ⟨k1, f1, rfl⟩ := iv_get e1
    obtain ⟨k2, f2, rfl⟩ := iv_get e2
    have r1 := hvi _ (List.mem_of_getElem? f1)
    have r2 := hui _ (List.mem_of_getElem? f2)
    obtain rfl := at_some f1
    obtain rfl := at_some f2
    have st' := same_new nt (.tup [.int (at_ v i), .int (at_ u i)])
    refine ⟨t, _, rfl, .inl (.inl upd_same), rfl, _, _, rfl, _, _, rfl, rfl, rfl, ?_⟩
    refine ⟨_, rfl, _, rfl, _, rfl, k, s0, at_ v i, at_ u i, rfl, hk, r1, r2, fun n en => ?_, fun en => ?_⟩
    · have ec : calcI k v u i = wrap n := by unfold calcI; rw [en]; rfl
      obtain ⟨acc, t1, t2, t3⟩ := tick (y := .int (wrap n)) (B := iv ((List.range (i + 1)).map (calcI k v u))) (sm.trans st') nD (st' _ _ hD) (fun _ _ e => e) (by rw [← ec]; exact mapR (calcI k v u) i) (by rw [iv_len, List.length_map, List.length_range]; omega)
      refine ⟨acc, t1, t2, t3.1, t3.2, fun j hj => ?_⟩
      rcases Nat.lt_succ_iff_lt_or_eq.mp hj with hj | rfl
      · exact all j hj
      · rw [en]; exact fun z => nomatch z
    · exact e (if_neg fun z => z i hi en) _ (sm.trans st')
  · rintro H3 ⟨sm, hD, all⟩
    exact q _ (if_pos all) H3 D sm nD hD
end
end K11

namespace K11
open PySem PySem.Spec PyProof.Rows L2
abbrev PrT := V → List (List Int) → Prop
abbrev ReT := V → List (List Int) → Option (List Int)
abbrev pr_fill : PrT := (fun ex xss => ∃ n v, ex = .int n ∧ xss = [v] ∧ v.length ≤ NN)
abbrev re_fill : ReT := (fun ex xss => match ex with | .int n => some ((xss.headD []).map fun _ => n) | _ => none)
abbrev pr_calc_ : PrT := (fun ex xss => ∃ (k : Nat) (s : Str) (v u : List Int), ex = .str s ∧ sgn[k]? = some s ∧ xss = [v, u] ∧ u.length = v.length ∧ v.length ≤ NN ∧ (∀ n ∈ v, InR n) ∧ ∀ n ∈ u, InR n)
abbrev re_calc_ : ReT := (fun ex xss => match ex with | .str s => calcR (sgn.idxOf s) (xss.headD []) (xss.getD 1 []) | _ => none)
abbrev pr_take_ : PrT := (fun _ xss => ∃ v ix, xss = [v, ix] ∧ ix.length ≤ NN ∧ ∀ k ∈ ix, 0 ≤ k ∧ k < v.length)
abbrev re_take_ : ReT := (fun _ xss => some ((xss.getD 1 []).map fun k => at_ (xss.headD []) k.toNat))
abbrev pr_pick : PrT := (fun _ xss => ∃ ls sg, xss = [ls, sg] ∧ Lens ls ∧ (∀ k ∈ sg, 0 ≤ k ∧ k < ls.length) ∧ ((List.range sg.length).flatMap (pickI ls sg)).length ≤ NN)
abbrev re_pick : ReT := (fun _ xss => some ((List.range (xss.getD 1 []).length).flatMap (pickI (xss.headD []) (xss.getD 1 []))))
abbrev pr_repeat_ : PrT := (fun _ xss => ∃ ls, xss = [ls] ∧ Lens ls)
abbrev re_repeat_ : ReT := (fun _ xss => some ((List.range (xss.headD []).length).flatMap fun i => List.replicate (at_ (xss.headD []) i).toNat (i : Int)))
abbrev pr_count_ : PrT := (fun _ xss => ∃ ls, xss = [ls] ∧ Lens ls)
abbrev re_count_ : ReT := (fun _ xss => some ((List.range (xss.headD []).length).flatMap fun i => rng 0 (at_ (xss.headD []) i)))
abbrev pr_where_ : PrT := (fun ex xss => ∃ b v, ex = .bl b ∧ xss = [v] ∧ v.length ≤ NN)
abbrev re_where_ : ReT := (fun ex xss => match ex with | .bl b => some ((List.range (xss.headD []).length).flatMap fun i => if decide (at_ (xss.headD []) i ≠ 0) = b then [(i : Int)] else []) | _ => none)
abbrev pr_weave : PrT := (fun _ xss => ∃ v, xss = [v] ∧ v.length ≤ NN)
abbrev re_weave : ReT := (fun _ xss => some ((List.range (xss.headD []).length).map (weaveI (xss.headD []))))
abbrev pr_join_ : PrT := (fun _ xss => ∃ v u, xss = [v, u] ∧ v.length + u.length ≤ NN)
abbrev re_join_ : ReT := (fun _ xss => some (xss.headD [] ++ xss.getD 1 []))
abbrev pr_sums : PrT := (fun _ xss => ∃ ls v, xss = [ls, v] ∧ Lens ls ∧ ls.sum = v.length)
abbrev re_sums : ReT := (fun _ xss => some ((List.range (xss.headD []).length).map (sumI (xss.headD []) (xss.getD 1 []))))
abbrev pr_zip_segments : PrT := (fun _ xss => ∃ ls os, xss = [ls, os] ∧ Lens ls ∧ Lens os ∧ os.length = ls.length ∧ ls.sum + os.sum ≤ NN)
abbrev re_zip_segments : ReT := (fun _ xss => some ((List.range (xss.headD []).length).flatMap (zipI (xss.headD []) (xss.getD 1 []))))
abbrev pr_place : PrT := (fun _ xss => ∃ ls ps, xss = [ls, ps] ∧ Lens ls ∧ ps.length = ls.length)
abbrev re_place : ReT := (fun _ xss => if ∀ i < (xss.headD []).length, 0 ≤ at_ (xss.getD 1 []) i ∧ at_ (xss.getD 1 []) i < at_ (xss.headD []) i then some ((List.range (xss.headD []).length).map fun i => pre (xss.headD []) i + at_ (xss.getD 1 []) i) else none)
abbrev pr_need_range : PrT := (fun _ xss => ∃ v, xss = [v] ∧ v.length ≤ NN)
abbrev re_need_range : ReT := (fun _ xss => if ∀ x ∈ xss.headD [], 0 ≤ x ∧ x ≤ 1000 then some (xss.headD []) else none)
abbrev pr_need_same : PrT := (fun _ xss => ∃ v u, xss = [v, u])
abbrev re_need_same : ReT := (fun _ xss => if xss.headD [] = xss.getD 1 [] then some (xss.headD []) else none)
abbrev pr_flags : PrT := (fun _ xss => ∃ v, xss = [v] ∧ v.length ≤ NN)
abbrev re_flags : ReT := (fun _ xss => some ((xss.headD []).map fun x => if x = 0 then 0 else 1))
/-- the instructions, what each asks of its inputs, what it gives -/
inductive Ins : Str → PrT → ReT → Prop
  | fill : Ins "fill" pr_fill re_fill
  | calc_ : Ins "calc" pr_calc_ re_calc_
  | take_ : Ins "take" pr_take_ re_take_
  | pick : Ins "pick" pr_pick re_pick
  | repeat_ : Ins "repeat" pr_repeat_ re_repeat_
  | count_ : Ins "count" pr_count_ re_count_
  | where_ : Ins "where" pr_where_ re_where_
  | weave : Ins "weave" pr_weave re_weave
  | join_ : Ins "join" pr_join_ re_join_
  | sums : Ins "sums" pr_sums re_sums
  | zip_segments : Ins "zip" pr_zip_segments re_zip_segments
  | place : Ins "place" pr_place re_place
  | need_range : Ins "range" pr_need_range re_need_range
  | need_same : Ins "same" pr_need_same re_need_same
  | flags : Ins "flags" pr_flags re_flags
/-- what may be shown: no dict, numbers of the range, of depth n and length m at most -/
structure Shw (d : PyData) (n m : Nat) : Prop where
  ok : d.showable = true
  nd : d.hasDict = false
  dp : d.depth ≤ n
  ln : d.shown.length ≤ m
structure Shws (ds : List PyData) (n m : Nat) : Prop where
  ok : PyData.showableAll ds = true
  nd : PyData.hasDictAll ds = false
  dp : PyData.depthAll ds ≤ n
  ln : ((PyData.shownAll ds).map (·.length)).sum ≤ m
theorem Shws.nil {n m : Nat} : Shws [] n m := ⟨rfl, rfl, Nat.zero_le _, Nat.zero_le _⟩
theorem Shws.cons {d : PyData} {ds : List PyData} {n m m' : Nat} (h : Shw d n m) (hs : Shws ds n m') : Shws (d :: ds) n (m + m') :=
  ⟨by show (d.showable && PyData.showableAll ds) = true; rw [h.ok, hs.ok]; rfl, by show (d.hasDict || PyData.hasDictAll ds) = false; rw [h.nd, hs.nd]; rfl,
   by show max d.depth (PyData.depthAll ds) ≤ n; have := h.dp; have := hs.dp; omega, by show d.shown.length + ((PyData.shownAll ds).map (·.length)).sum ≤ m + m'; have := h.ln; have := hs.ln; omega⟩
theorem Shws.lst {ds : List PyData} {n m : Nat} (h : Shws ds n m) : Shw (.list ds) (n + 1) (m + 2 * ds.length + 3) :=
  ⟨h.ok, h.nd, by show PyData.depthAll ds + 1 ≤ n + 1; have := h.dp; omega, by
    have a := listText_len_le (PyData.shownAll ds)
    have b := PyData.shownAll_length ds
    have c := h.ln
    show (listText (PyData.shownAll ds)).length ≤ _
    omega⟩
theorem shw_int {n : Int} (h : InR n) : Shw (.int n) 0 11 := ⟨by
    show decide (n.natAbs.log2 < 1920) = true
    refine decide_eq_true ?_
    exact Nat.lt_of_lt_of_le (PySem.Flt.log2_lt_of (n := n.natAbs) (k := 34) (by decide) (by unfold InR at h; omega)) (by decide), rfl, Nat.le_refl _, by
    show (Str.ofString (toString n)).length ≤ 11
    have e := int_text_length_le10 (a := n) (k := 10) (by decide) (by unfold InR at h; omega)
    rw [PySem.ofString_length]; exact e⟩
theorem ints_shw {ns : List Int} (h : ∀ n ∈ ns, InR n) : Shws (ns.map .int) 0 (11 * ns.length) := by
  induction ns with
  | nil => exact Shws.nil
  | cons n r ih =>
    have := Shws.cons (shw_int (h n (List.mem_cons_self ..))) (ih fun m hm => h m (List.mem_cons_of_mem _ hm))
    rw [List.length_cons, Nat.mul_add, Nat.mul_one, Nat.add_comm]
    exact this
/-- few numbers -/
structure Few (xss : List (List Int)) : Prop where
  ln : xss.length ≤ 2
  sz : ∀ x ∈ xss, x.length ≤ 100 ∧ ∀ n ∈ x, InR n
def inp (xss : List (List Int)) : PyData := .list (xss.map nsd)
theorem nsd_shw {x : List Int} (h : x.length ≤ 100 ∧ ∀ n ∈ x, InR n) : Shw (nsd x) 1 1303 := by
  have a := (ints_shw h.2).lst
  rw [List.length_map] at a
  exact ⟨a.ok, a.nd, a.dp, Nat.le_trans a.ln (by omega)⟩
theorem nsds_shw : ∀ {xss : List (List Int)}, (∀ x ∈ xss, x.length ≤ 100 ∧ ∀ n ∈ x, InR n) → Shws (xss.map nsd) 1 (1303 * xss.length)
  | [], _ => Shws.nil
  | x :: r, h => by
    have := Shws.cons (nsd_shw (h x (List.mem_cons_self ..))) (nsds_shw fun m hm => h m (List.mem_cons_of_mem _ hm))
    rw [List.length_cons, Nat.mul_add, Nat.mul_one, Nat.add_comm]
    exact this
theorem inp_shw {xss : List (List Int)} (h : Few xss) : Shw (inp xss) 2 3000 := by
  have a := (nsds_shw h.sz).lst
  rw [List.length_map] at a
  have := h.ln
  exact ⟨a.ok, a.nd, a.dp, Nat.le_trans a.ln (by omega)⟩
theorem inp_dp {K : PySem.W.Frag} {H : Hp} {p : Addr} {as : List Addr} {xss : List (List Int)} (hp : SqL K H p (as.map V.ref)) (hv : VecsAt K H as xss) : Dp K H (.ref p) (inp xss) := by
  refine .lst hp ?_
  clear hp
  induction as generalizing xss with
  | nil =>
    cases xss with
    | nil => exact .nil
    | cons x t => exact hv.elim
  | cons b r ih =>
    cases xss with
    | nil => exact hv.elim
    | cons x t => exact .cons (nsd_dp (SqL.of hv.1)) (ih hv.2)
section
variable {P : Program} {w : World} {K : PySem.W.Frag} {mg : Str → Option Value} {base : Heap} {a : Ad}
def spExec (TE : Addr) (K : PySem.W.Frag) : Sp := fun vs H Q E => ∃ (s : Str) (ex p : V) (pr : PrT) (res : ReT), vs = [.str s, ex, p] ∧ Ins s pr res ∧ spIn TE pr res K [ex, p] H Q E
theorem exec_of (T : Txt w K mg a) {s : Str} {ex p : V} {pr : PrT} {res : ReT} {f : Addr × FuncData} {x y : Str} {st : Stmt} {l : Nat} (hl : l ≤ 3) (F : Fun K x x st f.1 f.2) (b : Binds K f.2 [y, "inputs"] []) (G : FnOk P w K mg base (L2.CX P w) l f.1 f.2 [y, "inputs"] (spIn a.TrapError pr res K)) (ho : KDct K w a.INS s (.ref f.1))
    {cdv : Value} {A : Around} {outer : List Env} {sh : Shared} {H : Hp} {Q : VK} {E : XK} (hr : Room 3 (A.deeper (envOfC "execute" (defScope s_execute) sh.heap.objs.size a.execute.1 cdv)))
    (q : spIn a.TrapError pr res K [ex, p] H Q E) :
    ∃ t, PSs (cxOf (L2.CX P w) P w K mg base ["name", "extra", "inputs", "instruction"] "execute" (defScope s_execute) a.execute.1 cdv A outer sh H E) (defBody s_execute) t ∧ t { nx := fun _ H' => Q .non H', rt := Q } (start ["name", "extra", "inputs", "instruction"] [.str s, ex, p]) H := by
  have nd := sc_execute.nd
  refine ⟨_, (pss_cons (ps_set (i := 3) nd rfl (Or.inl rfl) (pe_ix ix_kdict (pe_glob (v := .ref a.INS) rfl T.gIN rfl) (pv 0) (fun _ _ => rfl)))
  (pss_one (ps_ret (pe_callL (i := 3) G (hr.mono hl) rfl (.inl rfl) F.kp b .nil (passes_call (takes_of rfl rfl rfl rfl) (fun _ _ _ _ h => h)) (pa_cons (pv 1) (pa_cons (pv 2) pa_nil)))))), ?_⟩
  exact ⟨_, rfl, a.INS, s, _, rfl, rfl, ho, rfl, _, rfl, _, rfl, q⟩
theorem ok_execute (T : Txt w K mg a) : FnOk P w K mg base (L2.CX P w) 4 a.execute.1 a.execute.2 ["name", "extra", "inputs"] (spExec a.TrapError K) := by
  refine T.execute.F.okX sc_execute (fun vs H Q E h => ?_) (fun cdv A outer s H vs Q E hr h => ?_)
  · obtain ⟨s, ex, p, _, _, rfl, _⟩ := h
    rfl
  obtain ⟨s, ex, p, pr, res, rfl, hin, q⟩ := h
  cases hin with
  | fill => exact exec_of T (by decide) T.fill.F T.fill.b (ok_fill T) T.n_fill hr q
  | calc_ => exact exec_of T (by decide) T.calc_.F T.calc_.b (ok_calc T) T.n_calc hr q
  | take_ => exact exec_of T (by decide) T.take_.F T.take_.b (ok_take T) T.n_take hr q
  | pick => exact exec_of T (by decide) T.pick.F T.pick.b (ok_pick T) T.n_pick hr q
  | repeat_ => exact exec_of T (by decide) T.repeat_.F T.repeat_.b (ok_repeat T) T.n_repeat hr q
  | count_ => exact exec_of T (by decide) T.count_.F T.count_.b (ok_count T) T.n_count hr q
  | where_ => exact exec_of T (by decide) T.where_.F T.where_.b (ok_where T) T.n_where hr q
  | weave => exact exec_of T (by decide) T.weave.F T.weave.b (ok_weave T) T.n_weave hr q
  | join_ => exact exec_of T (by decide) T.join_.F T.join_.b (ok_join T) T.n_join hr q
  | sums => exact exec_of T (by decide) T.sums.F T.sums.b (ok_sums T) T.n_sums hr q
  | zip_segments => exact exec_of T (by decide) T.zip_segments.F T.zip_segments.b (ok_zip_segments T) T.n_zip hr q
  | place => exact exec_of T (by decide) T.place.F T.place.b (ok_place T) T.n_place hr q
  | need_range => exact exec_of T (by decide) T.need_range.F T.need_range.b (ok_need_range T) T.n_range hr q
  | need_same => exact exec_of T (by decide) T.need_same.F T.need_same.b (ok_need_same T) T.n_same hr q
  | flags => exact exec_of T (by decide) T.flags.F T.flags.b (ok_flags T) T.n_flags hr q
end
end K11

namespace K11
open PySem PySem.Spec PyProof.Rows L2
/-- what is kept but for the state of the draws -/
def Kp (st c : Addr) (H H' : Hp) : Prop := ∀ b o, b ≠ st → b ≠ c → H b = some o → H' b = some o
theorem Kp.rfl {st c : Addr} {H : Hp} : Kp st c H H := fun _ _ _ _ e => e
theorem Kp.trans {st c : Addr} {H H1 H2 : Hp} (x : Kp st c H H1) (y : Kp st c H1 H2) : Kp st c H H2 := fun b o h1 h2 e => y b o h1 h2 (x b o h1 h2 e)
theorem Kp.of {st c : Addr} {H H1 : Hp} (s : Same H H1) : Kp st c H H1 := fun b o _ _ e => s b o e
def Ls (st c : Addr) (H : Hp) (p : Addr) (ns : List Int) : Prop := H p = some (.lst (iv ns)) ∧ p ≠ st ∧ p ≠ c
theorem Ls.kp {st c p : Addr} {H H' : Hp} {ns : List Int} (h : Ls st c H p ns) (k : Kp st c H H') : Ls st c H' p ns := ⟨k _ _ h.2.1 h.2.2 h.1, h.2⟩
theorem Ls.seq {K : PySem.W.Frag} {st c p : Addr} {H : Hp} {ns : List Int} (h : Ls st c H p ns) : SqL K H p (iv ns) := SqL.of h.1
theorem St.new {st c p : Addr} {H : Hp} (s : StAt H st c) (n : H p = none) : p ≠ st ∧ p ≠ c := by
  obtain ⟨_, _, a, b⟩ := s
  exact ⟨(ne_of_none a n).symm, (ne_of_none b n).symm⟩
theorem St.put {st c p : Addr} {H : Hp} {o : HO} (s : StAt H st c) (n : p ≠ st ∧ p ≠ c) : StAt (upd H p o) st c := by
  obtain ⟨ns, z, a, b⟩ := s
  exact ⟨ns, z, by rw [upd_ne n.1.symm]; exact a, by rw [upd_ne n.2.symm]; exact b⟩
/-- one more drawn item -/
theorem Go.put {st c D : Addr} {H1 H4 : Hp} {o : HO} (g : Go st c H1 H4) (n : H1 D = none) (m : D ≠ st ∧ D ≠ c) : Go st c H1 (upd H4 D o) :=
  ⟨fun b o' h1 h2 e => by rw [upd_ne (ne_of_none e n)]; exact g.1 b o' h1 h2 e, St.put g.2 m⟩
/-! ### code -/
structure In where
  nm : Str
  ex : V
  ins : List Int
  out : Int
/-- register r holds, ahead of instruction k, a vector of as many numbers as there are lanes -/
def Sf (many : Nat) (code : List In) (k : Nat) (r : Int) : Prop := 0 ≤ r ∧ (r < many ∨ ∃ j, j < k ∧ r = many + (j : Int) ∧ ∀ y, code[j]? = some y → y.nm ≠ "join")
inductive InKind : In → Prop
  | fill (n r o : Int) (h : 0 ≤ n ∧ n ≤ 2) : InKind ⟨"fill", .int n, [r], o⟩
  | calc1 (k : Nat) (s : Str) (r q o : Int) (h : sgn[k]? = some s) (h5 : k ≠ 5) (h6 : k ≠ 6) : InKind ⟨"calc", .str s, [r, q], o⟩
  | flags (r o : Int) : InKind ⟨"flags", .non, [r], o⟩
  | range (r o : Int) : InKind ⟨"range", .non, [r], o⟩
  | same (r q o : Int) : InKind ⟨"same", .non, [r, q], o⟩
  | join (r q o : Int) : InKind ⟨"join", .non, [r, q], o⟩
structure Okc (many : Nat) (code : List In) : Prop where
  out : ∀ (k : Nat) (x : In), code[k]? = some x → x.out = many + (k : Int)
  ins : ∀ (k : Nat) (x : In), code[k]? = some x → ∀ r ∈ x.ins, Sf many code k r
  kind : ∀ x ∈ code, InKind x
def InAt (X : List Addr) (H : Hp) (x : In) (v : V) : Prop := ∃ t a b, v = .ref t ∧ H t = some (.tup [.str x.nm, x.ex, .ref a, .ref b]) ∧ H a = some (.lst (iv x.ins)) ∧ H b = some (.lst [.int x.out]) ∧ t ∉ X ∧ a ∉ X ∧ b ∉ X
def InsAt (X : List Addr) (H : Hp) : List In → List V → Prop
  | [], [] => True
  | x :: r, v :: vs => InAt X H x v ∧ InsAt X H r vs
  | _, _ => False
def Fr (X : List Addr) (H H' : Hp) : Prop := ∀ b o, b ∉ X → H b = some o → H' b = some o
theorem Fr.of {X : List Addr} {H H' : Hp} (s : Same H H') : Fr X H H' := fun b o _ e => s b o e
theorem Fr.go {X : List Addr} {st c : Addr} {H H' : Hp} (g : Kp st c H H') (h1 : st ∈ X) (h2 : c ∈ X) : Fr X H H' := fun b o n e => g b o (fun z => n (z ▸ h1)) (fun z => n (z ▸ h2)) e
theorem Fr.put {X : List Addr} {H : Hp} {p : Addr} {o : HO} (m : p ∈ X) : Fr X H (upd H p o) := fun b o' n e => by rw [upd_ne (fun z => n (by rw [z]; exact m))]; exact e
theorem InAt.fr {X : List Addr} {H H' : Hp} {x : In} {v : V} (h : InAt X H x v) (f : Fr X H H') : InAt X H' x v := by
  obtain ⟨t, a, b, e, h1, h2, h3, n1, n2, n3⟩ := h
  exact ⟨t, a, b, e, f _ _ n1 h1, f _ _ n2 h2, f _ _ n3 h3, n1, n2, n3⟩
theorem InsAt.fr {X : List Addr} {H H' : Hp} (f : Fr X H H') : ∀ {code : List In} {vs : List V}, InsAt X H code vs → InsAt X H' code vs
  | [], [], _ => trivial
  | _ :: _, _ :: _, ⟨a, b⟩ => ⟨a.fr f, b.fr f⟩
  | [], _ :: _, h => h.elim
  | _ :: _, [], h => h.elim
theorem InsAt.snoc {X : List Addr} {H : Hp} {x : In} {v : V} (h : InAt X H x v) : ∀ {code : List In} {vs : List V}, InsAt X H code vs → InsAt X H (code ++ [x]) (vs ++ [v])
  | [], [], _ => ⟨h, trivial⟩
  | _ :: _, _ :: _, ⟨a, b⟩ => ⟨a, b.snoc h⟩
  | [], _ :: _, h => h.elim
  | _ :: _, [], h => h.elim
theorem InsAt.len {X : List Addr} {H : Hp} : ∀ {code : List In} {vs : List V}, InsAt X H code vs → vs.length = code.length
  | [], [], _ => rfl
  | _ :: _, _ :: _, ⟨_, b⟩ => congrArg (· + 1) b.len
  | [], _ :: _, h => h.elim
  | _ :: _, [], h => h.elim
theorem InsAt.mem {X : List Addr} {H : Hp} {v : V} : ∀ {code : List In} {vs : List V}, InsAt X H code vs → v ∈ vs → ∃ (k : Nat) (x : In), code[k]? = some x ∧ vs[k]? = some v ∧ InAt X H x v
  | [], [], _, m => absurd m List.not_mem_nil
  | x :: r, w :: vs, ⟨a, b⟩, m => by
    rcases List.mem_cons.mp m with rfl | m
    · exact ⟨0, x, rfl, rfl, a⟩
    · obtain ⟨k, y, e1, e2, e3⟩ := b.mem m
      exact ⟨k + 1, y, e1, e2, e3⟩
  | [], _ :: _, h, _ => h.elim
  | _ :: _, [], h, _ => h.elim
theorem get_snoc {l : List In} {x y : In} {k : Nat} (h : (l ++ [x])[k]? = some y) : l[k]? = some y ∨ (k = l.length ∧ x = y) := by
  by_cases c : k < l.length
  · rw [List.getElem?_append_left c] at h; exact .inl h
  · rw [List.getElem?_append_right (by omega)] at h
    have lt := (List.getElem?_eq_some_iff.mp h).1
    have : k - l.length = 0 := by simp at lt; omega
    rw [this] at h
    exact .inr ⟨by omega, Option.some.inj h⟩
theorem Sf.mono {many : Nat} {code : List In} {x : In} {k k' : Nat} {r : Int} (h : Sf many code k r) (hk : k ≤ k') (hl : k ≤ code.length) : Sf many (code ++ [x]) k' r := by
  obtain ⟨h0, h | ⟨j, h1, h2, h3⟩⟩ := h
  · exact ⟨h0, .inl h⟩
  · exact ⟨h0, .inr ⟨j, by omega, h2, fun y hy => h3 y (by rw [List.getElem?_append_left (by omega)] at hy; exact hy)⟩⟩
theorem Okc.snoc {many : Nat} {code : List In} {x : In} (h : Okc many code) (ho : x.out = many + (code.length : Int)) (hi : ∀ r ∈ x.ins, Sf many code code.length r) (hk : InKind x) : Okc many (code ++ [x]) := by
  refine ⟨fun k y e => ?_, fun k y e r hr => ?_, fun y hy => ?_⟩
  · rcases get_snoc e with e | ⟨rfl, rfl⟩
    · exact h.out k y e
    · exact ho
  · rcases get_snoc e with e | ⟨rfl, rfl⟩
    · have lt := (List.getElem?_eq_some_iff.mp e).1
      exact (h.ins k y e r hr).mono (Nat.le_refl _) (by omega)
    · exact (hi r hr).mono (Nat.le_refl _) (Nat.le_refl _)
  · rcases List.mem_append.mp hy with hy | hy
    · exact h.kind y hy
    · rw [List.mem_singleton.mp hy]; exact hk
/-- the code that is being drawn: its list cp, the registers that may be read sp -/
structure GenAt (st c cp sp : Addr) (H0 H : Hp) (many : Nat) (code : List In) (safe : List Int) : Prop where
  cd : ∃ vs, H cp = some (.lst vs) ∧ InsAt [st, c, cp, sp] H code vs
  sa : H sp = some (.lst (iv safe))
  go : Go st c H0 H
  c0 : H0 cp = none
  s0 : H0 sp = none
  cs : cp ≠ sp
  cn : cp ≠ st ∧ cp ≠ c
  sn : sp ≠ st ∧ sp ≠ c
  ok : Okc many code
  sf : ∀ r ∈ safe, Sf many code code.length r
  nn : safe ≠ []
theorem GenAt.step {st c cp sp : Addr} {H0 H H' : Hp} {many : Nat} {code : List In} {safe : List Int} (h : GenAt st c cp sp H0 H many code safe) (g : Go st c H H') : GenAt st c cp sp H0 H' many code safe := by
  obtain ⟨vs, h1, h2⟩ := h.cd
  exact { h with cd := ⟨vs, g.1 _ _ h.cn.1 h.cn.2 h1, h2.fr (Fr.go g.1 (by simp) (by simp))⟩, sa := g.1 _ _ h.sn.1 h.sn.2 h.sa, go := h.go.trans g }
theorem GenAt.new {st c cp sp p : Addr} {H0 H : Hp} {many : Nat} {code : List In} {safe : List Int} {o : HO} (h : GenAt st c cp sp H0 H many code safe) (n : H p = none) : GenAt st c cp sp H0 (upd H p o) many code safe := h.step (Go.same h.go.2 (same_new n o))
/-- one more instruction -/
theorem GenAt.push {st c cp sp a b t : Addr} {H0 H : Hp} {many : Nat} {code : List In} {safe : List Int} {vs xs : List V} {x : In} (h : GenAt st c cp sp H0 H many code safe) (hx : xs = iv x.ins) (na : H a = none) (nb : (upd H a (.lst xs)) b = none) (nt : (upd (upd H a (.lst xs)) b (.lst [.int x.out])) t = none)
    (hv : (upd (upd (upd H a (.lst xs)) b (.lst [.int x.out])) t (.tup [.str x.nm, x.ex, .ref a, .ref b])) cp = some (.lst vs)) (ho : x.out = many + (code.length : Int)) (hi : ∀ r ∈ x.ins, Sf many code code.length r) (hk : InKind x) :
    GenAt st c cp sp H0 (upd (upd (upd (upd H a (.lst xs)) b (.lst [.int x.out])) t (.tup [.str x.nm, x.ex, .ref a, .ref b])) cp (.lst (vs ++ [.ref t]))) many (code ++ [x]) safe := by
  have h1 := h.new (o := .lst xs) na
  have h2 := h1.new (o := .lst [.int x.out]) nb
  have h3 := h2.new (o := .tup [.str x.nm, x.ex, .ref a, .ref b]) nt
  have fresh : ∀ {H : Hp} {p : Addr}, GenAt st c cp sp H0 H many code safe → H p = none → p ∉ [st, c, cp, sp] := fun {H p} g n m => by
    obtain ⟨_, _, e1, e2⟩ := id g.go.2
    obtain ⟨_, e3, _⟩ := g.cd
    simp only [List.mem_cons, List.not_mem_nil, or_false] at m
    rcases m with rfl | rfl | rfl | rfl
    · rw [n] at e1; cases e1
    · rw [n] at e2; cases e2
    · rw [n] at e3; cases e3
    · have := g.sa; rw [n] at this; cases this
  have fa := fresh h na
  have fb := fresh h1 nb
  have ft := fresh h2 nt
  obtain ⟨ws, e1, e2⟩ := h3.cd
  rw [hv] at e1
  obtain rfl : vs = ws := HO.lst.inj (Option.some.inj e1)
  have s1 := same_new na (.lst xs)
  have s2 := same_new nb (.lst [.int x.out])
  have s3 := same_new nt (.tup [.str x.nm, x.ex, .ref a, .ref b])
  have ia : InAt [st, c, cp, sp] (upd (upd (upd H a (.lst xs)) b (.lst [.int x.out])) t (.tup [.str x.nm, x.ex, .ref a, .ref b])) x (.ref t) := ⟨t, a, b, rfl, upd_same, by subst hx; exact s3 _ _ (s2 _ _ upd_same), s3 _ _ upd_same, ft, fa, fb⟩
  have fu : ∀ o, Fr [st, c, cp, sp] (upd (upd (upd H a (.lst xs)) b (.lst [.int x.out])) t (.tup [.str x.nm, x.ex, .ref a, .ref b])) (upd (upd (upd (upd H a (.lst xs)) b (.lst [.int x.out])) t (.tup [.str x.nm, x.ex, .ref a, .ref b])) cp o) := fun o => Fr.put (by simp)
  exact {
    c0 := h.c0, s0 := h.s0, cs := h.cs, cn := h.cn, sn := h.sn, nn := h.nn,
    cd := ⟨_, upd_same, (e2.fr (fu _)).snoc (ia.fr (fu _))⟩,
    sa := (by rw [upd_ne h.cs.symm]; exact h3.sa),
    go := Go.put h3.go h.c0 h.cn,
    ok := h.ok.snoc ho hi hk,
    sf := fun r hr => by rw [List.length_append]; exact (h.sf r hr).mono (by simp) (Nat.le_refl _) }
/-- one more register that may be read -/
theorem GenAt.safe {st c cp sp : Addr} {H0 H : Hp} {many : Nat} {code : List In} {safe : List Int} {r : Int} (h : GenAt st c cp sp H0 H many code safe) (hr : Sf many code code.length r) : GenAt st c cp sp H0 (upd H sp (.lst (iv safe ++ [.int r]))) many code (safe ++ [r]) := by
  obtain ⟨vs, e1, e2⟩ := h.cd
  exact { h with
    cd := ⟨vs, by rw [upd_ne h.cs]; exact e1, e2.fr (Fr.put (by simp))⟩,
    sa := (by rw [upd_same]; simp [iv]),
    go := Go.put h.go h.s0 h.sn,
    sf := (fun q hq => by
      rcases List.mem_append.mp hq with hq | hq
      · exact h.sf q hq
      · rw [List.mem_singleton.mp hq]; exact hr),
    nn := (by simp) }
end K11

namespace K11
open PySem PySem.Spec PyProof.Rows L2
def lb : Stmt → List Stmt
  | .For _ _ b _ _ => b
  | _ => []
theorem InKind.as {x : In} (h : InKind x) (o : Int) : InKind ⟨x.nm, x.ex, x.ins, o⟩ := by
  cases h with
  | fill n r o' h => exact .fill n r o h
  | calc1 k s r q o' h h5 h6 => exact .calc1 k s r q o h h5 h6
  | flags r o' => exact .flags r o
  | range r o' => exact .range r o
  | same r q o' => exact .same r q o
  | join r q o' => exact .join r q o
section
variable {P : Program} {w : World} {K : PySem.W.Frag} {mg : Str → Option Value} {base : Heap} {a : Ad}
theorem Sf.last {many : Nat} {code : List In} {x : In} (h : x.nm ≠ "join") : Sf many (code ++ [x]) (code ++ [x]).length ((many : Int) + (code.length : Int)) :=
  ⟨by omega, .inr ⟨code.length, by simp, rfl, fun y hy => by
    rcases get_snoc hy with e | ⟨_, rfl⟩
    · have := (List.getElem?_eq_some_iff.mp e).1; omega
    · exact h⟩⟩
theorem some_free0 {H H1 : Hp} {q : Addr} (s : Same H H1) (n : H1 q = none) : H q = none := by
  cases z : H q with
  | none => rfl
  | some o => have := s _ _ z; rw [n] at this; cases this
theorem code_tail (T : Txt w K mg a) {cdv : Value} {A : Around} {outer : List Env} {s : Shared} {H0 : Hp} {E : XK} (hr : Room 3 (A.deeper (envOfC "_law_code" (defScope s_law_code) s.heap.objs.size a.law_code.1 cdv))) :
    ∃ t, PSs (cxOf CX0 P w K mg base ["state", "many", "code", "k", "safe", "out", "name", "first", "second", "again"] "_law_code" (defScope s_law_code) a.law_code.1 cdv A outer s H0 E).nox ((lb ((defBody s_law_code).getD 3 (.Pass ⟨0, 0, 0, 0⟩))).drop 4) t ∧ ∀ (D : Ends) (st c cp sp : Addr) (HB H : Hp) (many : Nat) (code : List In) (safe : List Int) (o : Int) (v3 v6 v7 v8 v9 : Option V), GenAt st c cp sp HB H many code safe → o + 1 = many + (code.length : Int) → Sf many code code.length o → code ≠ [] → code.length ≤ 900 → safe.length ≤ 900 →
      (∀ (code' : List In) (safe' : List Int) (H' : Hp) (v9' : Option V), GenAt st c cp sp HB H' many code' safe' → code'.length ≤ code.length + 1 → safe'.length = safe.length + 1 → D.nx [some (.ref st), some (.int many), some (.ref cp), v3, some (.ref sp), some (.int (many + (code'.length : Int))), v6, v7, v8, v9'] H') →
      t D [some (.ref st), some (.int many), some (.ref cp), v3, some (.ref sp), some (.int o), v6, v7, v8, v9] H := by
  have nd := sc_law_code.nd
  have G_law_draw := ok_law_draw (P := P) (w := w) (base := base) T
  have G_law_pick := ok_law_pick (P := P) (w := w) (base := base) T
  refine ⟨_, (pss_cons (ps_expr (pe_bm PySem.F.plainAttrs_list PySem.F.slot_list_append PySem.F.type_list_append mt_append (pv 4) (pa_cons (pv 5) pa_nil)))
  (pss_cons (ps_set (i := 5) nd rfl (Or.inl rfl) (pe_op op_add (pv 5) pe_int))
  (pss_one (ps_if (PW.pt (pw_and (pt_cmpR op_eq (pe_call G_law_draw (hr.mono (by omega)) rfl T.law_draw.g T.law_draw.F.kp T.law_draw.b .nil pass0 (pa_cons (pv 0) (pa_cons pe_int pa_nil))) pe_int (nomark _)) (pw_and1 (pt_cmpR op_gt (pe_callB call_len_seq (by rfl) T.len PySem.boot_len (pa_cons (pv 2) pa_nil)) pe_int (nomark _))))) (pss_cons (ps_set (i := 9) nd rfl (Or.inl rfl) (pe_call G_law_pick (hr.mono (by omega)) rfl T.law_pick.g T.law_pick.F.kp T.law_pick.b .nil pass0 (pa_cons (pv 0) (pa_cons (pv 2) pa_nil))))
  (pss_cons (ps_expr (pe_bm PySem.F.plainAttrs_list PySem.F.slot_list_append PySem.F.type_list_append mt_append (pv 2) (pa_cons (pe_tup (pa_cons (pe_ix ix_tup (pv 9) pe_int (fun _ _ => rfl)) (pa_cons (pe_ix ix_tup (pv 9) pe_int (fun _ _ => rfl)) (pa_cons (pe_callTy call_list_of (by rfl) T.list (by decide +kernel) (pa_cons (pe_ix ix_tup (pv 9) pe_int (fun _ _ => rfl)) pa_nil)) (pa_cons (pe_lst (pa_cons (pv 5) pa_nil)) pa_nil))))) pa_nil)))
  (pss_one (ps_set (i := 5) nd rfl (Or.inl rfl) (pe_op op_add (pv 5) pe_int))))) pss_nil)))), ?_⟩
  intro D st c cp sp HB H many code safe o v3 v6 v7 v8 v9 h ho hs hne hc9 hs9 fin
  refine ⟨_, rfl, .inl ⟨rfl, _, SqL.of h.sa⟩, _, rfl, sp, _, _, rfl, rfl, h.sa, by rw [iv_len]; exact small1000 (by omega), ?_⟩
  have h1 := h.safe hs
  generalize (upd H sp (.lst (iv safe ++ [.int o]))) = H1 at h1 ⊢
  refine ⟨_, rfl, _, _, rfl, rfl, ?_⟩
  refine ⟨_, rfl, st, c, 4, rfl, h1.go.2, by decide, by decide, fun H2 n g2 _ _ => ?_⟩
  have h2 := h1.step g2
  obtain ⟨vs, hc, hi⟩ := h2.cd
  have hl := hi.len
  refine ⟨rfl, _, rfl, ?_⟩
  by_cases c0 : n = 0
  · refine iteT' (by rw [c0]; decide) ?_
    have cpos : 0 < code.length := List.length_pos_iff.mpr hne
    refine ⟨_, rfl, cp, _, rfl, .inl (SqL.of hc), _, _, rfl, rfl, _, rfl, ?_⟩
    refine ifT (decide_eq_true (by omega)) ?_
    refine ⟨_, rfl, _, rfl, st, c, cp, vs, rfl, h2.go.2, hc, h2.cn.1, h2.cn.2, by omega, by omega, fun H3 x g3 hx => ?_⟩
    have h3 := h2.step g3
    obtain ⟨vs3, hc3, hi3⟩ := h3.cd
    have hc3' := g3.1 _ _ h2.cn.1 h2.cn.2 hc
    rw [hc3] at hc3'
    obtain rfl : vs3 = vs := HO.lst.inj (Option.some.inj hc3')
    obtain ⟨k, xi, ek, _, t, aa, bb, rfl, ht, ha, hb, _⟩ := hi3.mem hx
    refine ⟨_, rfl, .inl ⟨rfl, _, SqL.of hc3⟩, ?_⟩
    refine ⟨_, rfl, t, _, _, _, rfl, rfl, .inl (.inl ht), atI_nat (j := 0) rfl, _, rfl, t, _, _, _, rfl, rfl, .inl (.inl ht), atI_nat (j := 1) rfl, _, rfl, t, _, _, _, rfl, rfl, .inl (.inl ht), atI_nat (j := 2) rfl, aa, _, rfl, .inl (SqL.of ha), fun l nl => ?_⟩
    refine ⟨_, rfl, (by show 1 ≤ sizeLine; decide), fun b nb => ⟨(by show 4 ≤ sizeLine; decide), fun t2 nt => ?_⟩⟩
    have hc4 := (same_new nt (.tup [.str xi.nm, xi.ex, .ref l, .ref b])) _ _ ((same_new nb (.lst [V.int (o + 1)])) _ _ ((same_new nl (.lst (iv xi.ins))) _ _ hc3))
    refine ⟨cp, _, _, rfl, rfl, hc4, small1000 (by omega), ?_⟩
    have h5 := h3.push (x := ⟨xi.nm, xi.ex, xi.ins, o + 1⟩) rfl nl nb nt hc4 ho (fun r hr => by
      have lt := (List.getElem?_eq_some_iff.mp ek).1
      have := (h3.ok.ins k xi ek r hr)
      obtain ⟨z0, z | ⟨j, z1, z2, z3⟩⟩ := this
      · exact ⟨z0, .inl z⟩
      · exact ⟨z0, .inr ⟨j, by omega, z2, z3⟩⟩) ((h3.ok.kind xi (List.mem_of_getElem? ek)).as _)
    refine ⟨_, rfl, _, _, rfl, rfl, ?_⟩
    have := fin _ _ _ (some (.ref t)) h5 (by simp) (by simp)
    rw [List.length_append, List.length_singleton, show (many : Int) + ((code.length + 1 : Nat) : Int) = o + 1 + 1 by omega] at this
    exact this
  · refine iteF' (by simpa using c0) ?_
    have := fin _ _ _ v9 h2 (by omega) (by simp)
    rw [← ho] at this
    exact this
/-- what the def gives: code and the registers that may be read -/
def spCode : Sp := fun vs H Q _ => ∃ (st c : Addr) (many : Nat), vs = [.ref st, .int many] ∧ 1 ≤ many ∧ many ≤ 10 ∧ StAt H st c ∧
  ∀ (H' : Hp) (q cp sp : Addr) (code : List In) (safe : List Int), GenAt st c cp sp H H' many code safe → code.length ≤ 36 → safe.length ≤ 30 → q ≠ st → q ≠ c → H q = none → H' q = some (.lst [.ref cp, .ref sp]) → Q (.ref q) H'
theorem ok_law_code (T : Txt w K mg a) : FnOk P w K mg base CX0 4 a.law_code.1 a.law_code.2 ["state", "many"] spCode := by
  refine T.law_code.F.ok sc_law_code (fun vs H Q E h => ?_) (fun cdv A outer s H vs Q E hr h => ?_)
  · obtain ⟨_, _, _, rfl, _⟩ := h
    rfl
  obtain ⟨st, c, many, rfl, m1, m10, hS, q⟩ := h
  have nd := sc_law_code.nd
  have G_law_draw := ok_law_draw (P := P) (w := w) (base := base) T
  have G_law_pick := ok_law_pick (P := P) (w := w) (base := base) T
  obtain ⟨tT, hT, qT⟩ := code_tail (P := P) (base := base) T (cdv := cdv) (A := A) (outer := outer) (s := s) (H0 := H) (E := E) hr
  refine ⟨_, (pss_cons (ps_set (i := 2) nd rfl (Or.inl rfl) (pe_lst pa_nil))
  (pss_cons (ps_setLc (i := 4) (own := [("k", 3)]) (g := gName 3) (tt := tYes) rfl nd rfl rfl (sw_true rfl rfl rfl (by decide +kernel)) (pi_range1 rfl T.range (pa_cons (pv 1) pa_nil)) (blkOk_by (N := ["state", "many", "code", "k", "safe", "out", "name", "first", "second", "again"]) (sc := defScope s_law_code) (by decide +kernel)) (fun _ _ _ _ _ => (pg_name (i := 3) nd rfl (Or.inl rfl))) (fun _ _ _ _ _ => pts_nil) (fun _ _ _ _ _ => (pv 3)))
  (pss_cons (ps_set (i := 5) nd rfl (Or.inl rfl) (pv 1))
  (pss_cons (ps_for PassesOwn.never rfl (pi_range1 rfl T.range (pa_cons (pe_call G_law_draw (hr.mono (by omega)) rfl T.law_draw.g T.law_draw.F.kp T.law_draw.b .nil pass0 (pa_cons (pv 0) (pa_cons pe_int pa_nil))) pa_nil)) (pg_name (i := 3) nd rfl (Or.inl rfl)) (pss_cons (ps_set (i := 6) nd rfl (Or.inl rfl) (pe_call G_law_pick (hr.mono (by omega)) rfl T.law_pick.g T.law_pick.F.kp T.law_pick.b .nil pass0 (pa_cons (pv 0) (pa_cons (pe_lst (pa_cons pe_str (pa_cons pe_str (pa_cons pe_str (pa_cons pe_str (pa_cons pe_str (pa_cons pe_str (pa_cons pe_str (pa_cons pe_str (pa_cons pe_str pa_nil)))))))))) pa_nil))))
  (pss_cons (ps_set (i := 7) nd rfl (Or.inl rfl) (pe_call G_law_pick (hr.mono (by omega)) rfl T.law_pick.g T.law_pick.F.kp T.law_pick.b .nil pass0 (pa_cons (pv 0) (pa_cons (pv 4) pa_nil))))
  (pss_cons (ps_set (i := 8) nd rfl (Or.inl rfl) (pe_call G_law_pick (hr.mono (by omega)) rfl T.law_pick.g T.law_pick.F.kp T.law_pick.b .nil pass0 (pa_cons (pv 0) (pa_cons (pv 4) pa_nil))))
  (pss_cons (ps_if (pt_cmpR op_eq (pv 6) pe_str (nomark _)) (pss_one (ps_expr (pe_bm PySem.F.plainAttrs_list PySem.F.slot_list_append PySem.F.type_list_append mt_append (pv 2) (pa_cons (pe_tup (pa_cons pe_str (pa_cons (pe_call G_law_draw (hr.mono (by omega)) rfl T.law_draw.g T.law_draw.F.kp T.law_draw.b .nil pass0 (pa_cons (pv 0) (pa_cons pe_int pa_nil))) (pa_cons (pe_lst (pa_cons (pv 7) pa_nil)) (pa_cons (pe_lst (pa_cons (pv 5) pa_nil)) pa_nil))))) pa_nil)))) (pss_one (ps_if (pt_cmpR op_eq (pv 6) pe_str (nomark _)) (pss_one (ps_expr (pe_bm PySem.F.plainAttrs_list PySem.F.slot_list_append PySem.F.type_list_append mt_append (pv 2) (pa_cons (pe_tup (pa_cons pe_str (pa_cons (pe_call G_law_pick (hr.mono (by omega)) rfl T.law_pick.g T.law_pick.F.kp T.law_pick.b .nil pass0 (pa_cons (pv 0) (pa_cons (pe_lst (pa_cons pe_str (pa_cons pe_str (pa_cons pe_str (pa_cons pe_str (pa_cons pe_str pa_nil)))))) pa_nil))) (pa_cons (pe_lst (pa_cons (pv 7) (pa_cons (pv 8) pa_nil))) (pa_cons (pe_lst (pa_cons (pv 5) pa_nil)) pa_nil))))) pa_nil)))) (pss_one (ps_if (pt_cmpR op_eq (pv 6) pe_str (nomark _)) (pss_one (ps_expr (pe_bm PySem.F.plainAttrs_list PySem.F.slot_list_append PySem.F.type_list_append mt_append (pv 2) (pa_cons (pe_tup (pa_cons pe_str (pa_cons (pe_call G_law_pick (hr.mono (by omega)) rfl T.law_pick.g T.law_pick.F.kp T.law_pick.b .nil pass0 (pa_cons (pv 0) (pa_cons (pe_lst (pa_cons pe_str (pa_cons pe_str pa_nil))) pa_nil))) (pa_cons (pe_lst (pa_cons (pv 7) (pa_cons (pv 8) pa_nil))) (pa_cons (pe_lst (pa_cons (pv 5) pa_nil)) pa_nil))))) pa_nil)))) (pss_one (ps_if (pt_cmpR op_eq (pv 6) pe_str (nomark _)) (pss_cons (ps_expr (pe_bm PySem.F.plainAttrs_list PySem.F.slot_list_append PySem.F.type_list_append mt_append (pv 2) (pa_cons (pe_tup (pa_cons pe_str (pa_cons pe_non (pa_cons (pe_lst (pa_cons (pv 7) (pa_cons (pv 8) pa_nil))) (pa_cons (pe_lst (pa_cons (pv 5) pa_nil)) pa_nil))))) pa_nil)))
  (pss_cons (ps_expr (pe_bm PySem.F.plainAttrs_list PySem.F.slot_list_append PySem.F.type_list_append mt_append (pv 2) (pa_cons (pe_tup (pa_cons pe_str (pa_cons pe_int (pa_cons (pe_lst (pa_cons (pv 7) pa_nil)) (pa_cons (pe_lst (pa_cons (pe_op op_add (pv 5) pe_int) pa_nil)) pa_nil))))) pa_nil)))
  (pss_one (ps_set (i := 5) nd rfl (Or.inl rfl) (pe_op op_add (pv 5) pe_int))))) (pss_one (ps_if (pt_cmpR op_eq (pv 6) pe_str (nomark _)) (pss_one (ps_expr (pe_bm PySem.F.plainAttrs_list PySem.F.slot_list_append PySem.F.type_list_append mt_append (pv 2) (pa_cons (pe_tup (pa_cons pe_str (pa_cons pe_non (pa_cons (pe_lst (pa_cons (pv 7) (pa_cons (pv 8) pa_nil))) (pa_cons (pe_lst (pa_cons (pv 5) pa_nil)) pa_nil))))) pa_nil)))) (pss_one (ps_expr (pe_bm PySem.F.plainAttrs_list PySem.F.slot_list_append PySem.F.type_list_append mt_append (pv 2) (pa_cons (pe_tup (pa_cons (pv 6) (pa_cons pe_non (pa_cons (pe_lst (pa_cons (pv 7) pa_nil)) (pa_cons (pe_lst (pa_cons (pv 5) pa_nil)) pa_nil))))) pa_nil)))))))))))))
  hT)))))
  (pss_one (ps_ret (pe_lst (pa_cons (pv 2) (pa_cons (pv 4) pa_nil))))))))), ?_⟩
  refine ⟨(by show 0 ≤ sizeLine; decide), fun cp ncp => ?_⟩
  have s1 := same_new ncp (.lst [])
  have n1 := St.new hS ncp
  have S1 := St.put hS n1 (o := .lst [])
  refine ⟨_, rfl, _, rfl, by omega, by omega, fun sp nsp => lc_it (walk_range (lo := 0) (n := (many : Int).toNat)) (fun i H2 => Same (upd H cp (.lst [])) H2 ∧ H2 sp = some (.lst (iv ((List.range i).map fun (k : Nat) => 0 + (k : Int))))) ⟨same_new nsp _, upd_same⟩ (fun _ _ _ _ => trivial) ?_ ?_⟩
  · rintro i x H2 H3 hi ⟨sm, hD⟩ ⟨rfl, rfl⟩
    refine ⟨rfl, _, rfl, tick sm nsp hD (fun _ _ e => e) (mapR (fun k => 0 + (k : Int)) i) ?_⟩
    rw [iv_len, List.length_map, List.length_range]; unfold NN; omega
  rintro H2 ⟨s2, hsp⟩
  have nsp2 := St.new S1 nsp
  have S2 := S1.keep s2
  have g0 : GenAt st c cp sp H H2 many [] ((List.range many).map fun (k : Nat) => 0 + (k : Int)) := {
    cd := ⟨[], s2 _ _ upd_same, trivial⟩,
    sa := hsp,
    go := ⟨fun b o _ _ e => s2 _ _ (s1 _ _ e), S2⟩,
    c0 := ncp, s0 := some_free0 s1 nsp, cs := (ne_of_none upd_same nsp), cn := n1, sn := nsp2,
    ok := ⟨fun k x e => (by simp at e), fun k x e => (by simp at e), fun x hx => absurd hx List.not_mem_nil⟩,
    sf := fun r hr => (by
      obtain ⟨k, hk, rfl⟩ := List.mem_map.mp hr
      have := List.mem_range.mp hk
      exact ⟨by omega, .inl (by omega)⟩),
    nn := fun z => (by
      have := congrArg List.length z
      simp at this
      omega) }
  refine ⟨_, rfl, ?_⟩
  refine ⟨_, rfl, st, c, 12, rfl, S2, by decide, by decide, fun H3 m g3 m0 m2 => ?_⟩
  refine ⟨_, rfl, by omega, by omega, for_it (walk_range (lo := 0) (n := m.toNat)) (fun i σ H4 => ∃ (code : List In) (safe : List Int) (v3 v6 v7 v8 v9 : Option V), σ = [some (.ref st), some (.int many), some (.ref cp), v3, some (.ref sp), some (.int (many + (code.length : Int))), v6, v7, v8, v9] ∧ GenAt st c cp sp H H4 many code safe ∧ code.length ≤ 3 * i ∧ safe.length ≤ many + i) ⟨[], _, none, none, none, none, none, rfl, g0.step g3, by simp, by simp⟩ (fun _ _ _ _ _ => trivial) ?_ ?_⟩
  · rintro i x σ Hx H4 hi ⟨code, safe, v3, v6, v7, v8, v9, rfl, h4, l3, ls⟩ ⟨rfl, rfl⟩
    have ll : code.length ≤ 33 := by omega
    refine ⟨_, rfl, (by show 9 ≤ sizeLine; decide), fun p hp => ?_⟩
    have hS4 := h4.go.2
    have np := St.new hS4 hp
    have h5 := h4.new (o := .lst [.str "fill", .str "calc", .str "calc", .str "flags", .str "range", .str "same", .str "join", .str "calc", .str "div"]) hp
    refine ⟨st, c, p, _, rfl, h5.go.2, upd_same, np.1, np.2, by decide, by decide, fun H6 nm g6 hnm => ?_⟩
    have h6 := h5.step g6
    refine ⟨_, rfl, _, rfl, st, c, sp, iv safe, rfl, h6.go.2, h6.sa, h6.sn.1, h6.sn.2, by rw [iv_len]; exact List.length_pos_iff.mpr h6.nn, by rw [iv_len]; omega, fun H7 x7 g7 hx7 => ?_⟩
    have h7 := h6.step g7
    obtain ⟨r, hr7, rfl⟩ := List.mem_map.mp hx7
    refine ⟨_, rfl, _, rfl, st, c, sp, iv safe, rfl, h7.go.2, h7.sa, h7.sn.1, h7.sn.2, by rw [iv_len]; exact List.length_pos_iff.mpr h7.nn, by rw [iv_len]; omega, fun H8 x8 g8 hx8 => ?_⟩
    have h8 := h7.step g8
    obtain ⟨r2, hr8, rfl⟩ := List.mem_map.mp hx8
    have f1 := h8.sf r hr7
    have f2 := h8.sf r2 hr8
    clear h4 h5 h6 h7
    obtain ⟨vs, hc, hi⟩ := h8.cd
    have hl := hi.len
    simp only [List.mem_cons, List.not_mem_nil, or_false] at hnm
    rcases hnm with rfl | rfl | rfl | rfl | rfl | rfl | rfl | rfl | rfl
    · refine ⟨_, rfl, rfl, _, rfl, ?_⟩
      refine ifT (by decide +kernel) ?_
      refine ⟨_, rfl, .inl ⟨rfl, _, SqL.of hc⟩, ?_⟩
      refine ⟨_, rfl, st, c, 3, rfl, h8.go.2, by decide, by decide, fun H9 n g9 n0 n2 => ?_⟩
      have h9 := h8.step g9
      have hc9 := g9.1 _ _ h8.cn.1 h8.cn.2 hc
      refine ⟨_, rfl, (by show 1 ≤ sizeLine; decide), fun l nl => ⟨_, rfl, (by show 1 ≤ sizeLine; decide), fun b nb => ⟨(by show 4 ≤ sizeLine; decide), fun t nt => ?_⟩⟩⟩
      have hc4 := (same_new nt (.tup [.str "fill", .int n, .ref l, .ref b])) _ _ ((same_new nb (.lst [V.int ((many : Int) + (code.length : Int))])) _ _ ((same_new nl (.lst [V.int r])) _ _ hc9))
      refine ⟨cp, _, _, rfl, rfl, hc4, small1000 (by omega), ?_⟩
      have hA := h9.push (x := ⟨"fill", .int n, [r], (many : Int) + (code.length : Int)⟩) rfl nl nb nt hc4 (rfl) (by simp only [List.mem_cons, List.not_mem_nil, or_false, forall_eq_or_imp, forall_eq]; exact f1) (.fill n r _ ⟨n0, by omega⟩)
      exact qT _ st c cp sp H _ many _ safe _ _ _ _ _ _ hA (by rw [List.length_append, List.length_singleton]; omega) (Sf.last (show ("fill" : Str) ≠ "join" by decide +kernel)) (by simp) (by simp; omega) (by omega) (fun code' safe' H' v9' h' l' ls' => ⟨code', safe', _, _, _, _, _, rfl, h', by simp at l'; omega, by omega⟩)
    · refine ⟨_, rfl, rfl, _, rfl, ?_⟩
      refine ifF (by decide +kernel) ?_
      refine ⟨_, rfl, rfl, _, rfl, ?_⟩
      refine ifT (by decide +kernel) ?_
      refine ⟨_, rfl, .inl ⟨rfl, _, SqL.of hc⟩, ?_⟩
      refine ⟨_, rfl, (by show 5 ≤ sizeLine; decide), fun p2 hp2 => ?_⟩
      have np2 := St.new h8.go.2 hp2
      have h9 := h8.new (o := .lst [.str "+", .str "-", .str "*", .str "<", .str "="]) hp2
      have hc9 := (same_new hp2 (.lst [.str "+", .str "-", .str "*", .str "<", .str "="])) _ _ hc
      refine ⟨st, c, p2, _, rfl, h9.go.2, upd_same, np2.1, np2.2, by decide, by decide, fun HA sg gA hsg => ?_⟩
      have h10 := h9.step gA
      have hc10 := gA.1 _ _ h9.cn.1 h9.cn.2 hc9
      obtain ⟨k, sn, rfl, hk, k5, k6⟩ : ∃ (k : Nat) (sn : Str), sg = .str sn ∧ sgn[k]? = some sn ∧ k ≠ 5 ∧ k ≠ 6 := by
        simp only [List.mem_cons, List.not_mem_nil, or_false] at hsg
        rcases hsg with rfl | rfl | rfl | rfl | rfl
        · exact ⟨0, _, rfl, rfl, by decide, by decide⟩
        · exact ⟨1, _, rfl, rfl, by decide, by decide⟩
        · exact ⟨2, _, rfl, rfl, by decide, by decide⟩
        · exact ⟨7, _, rfl, rfl, by decide, by decide⟩
        · exact ⟨8, _, rfl, rfl, by decide, by decide⟩
      refine ⟨_, rfl, _, rfl, (by show 2 ≤ sizeLine; decide), fun l nl => ⟨_, rfl, (by show 1 ≤ sizeLine; decide), fun b nb => ⟨(by show 4 ≤ sizeLine; decide), fun t nt => ?_⟩⟩⟩
      have hc4 := (same_new nt (.tup [.str "calc", .str sn, .ref l, .ref b])) _ _ ((same_new nb (.lst [V.int ((many : Int) + (code.length : Int))])) _ _ ((same_new nl (.lst [V.int r, V.int r2])) _ _ hc10))
      refine ⟨cp, _, _, rfl, rfl, hc4, small1000 (by omega), ?_⟩
      have hA := h10.push (x := ⟨"calc", .str sn, [r, r2], (many : Int) + (code.length : Int)⟩) rfl nl nb nt hc4 (rfl) (by simp only [List.mem_cons, List.not_mem_nil, or_false, forall_eq_or_imp, forall_eq]; exact ⟨f1, f2⟩) (.calc1 k sn r r2 _ hk k5 k6)
      exact qT _ st c cp sp H _ many _ safe _ _ _ _ _ _ hA (by rw [List.length_append, List.length_singleton]; omega) (Sf.last (show ("calc" : Str) ≠ "join" by decide +kernel)) (by simp) (by simp; omega) (by omega) (fun code' safe' H' v9' h' l' ls' => ⟨code', safe', _, _, _, _, _, rfl, h', by simp at l'; omega, by omega⟩)
    · refine ⟨_, rfl, rfl, _, rfl, ?_⟩
      refine ifF (by decide +kernel) ?_
      refine ⟨_, rfl, rfl, _, rfl, ?_⟩
      refine ifT (by decide +kernel) ?_
      refine ⟨_, rfl, .inl ⟨rfl, _, SqL.of hc⟩, ?_⟩
      refine ⟨_, rfl, (by show 5 ≤ sizeLine; decide), fun p2 hp2 => ?_⟩
      have np2 := St.new h8.go.2 hp2
      have h9 := h8.new (o := .lst [.str "+", .str "-", .str "*", .str "<", .str "="]) hp2
      have hc9 := (same_new hp2 (.lst [.str "+", .str "-", .str "*", .str "<", .str "="])) _ _ hc
      refine ⟨st, c, p2, _, rfl, h9.go.2, upd_same, np2.1, np2.2, by decide, by decide, fun HA sg gA hsg => ?_⟩
      have h10 := h9.step gA
      have hc10 := gA.1 _ _ h9.cn.1 h9.cn.2 hc9
      obtain ⟨k, sn, rfl, hk, k5, k6⟩ : ∃ (k : Nat) (sn : Str), sg = .str sn ∧ sgn[k]? = some sn ∧ k ≠ 5 ∧ k ≠ 6 := by
        simp only [List.mem_cons, List.not_mem_nil, or_false] at hsg
        rcases hsg with rfl | rfl | rfl | rfl | rfl
        · exact ⟨0, _, rfl, rfl, by decide, by decide⟩
        · exact ⟨1, _, rfl, rfl, by decide, by decide⟩
        · exact ⟨2, _, rfl, rfl, by decide, by decide⟩
        · exact ⟨7, _, rfl, rfl, by decide, by decide⟩
        · exact ⟨8, _, rfl, rfl, by decide, by decide⟩
      refine ⟨_, rfl, _, rfl, (by show 2 ≤ sizeLine; decide), fun l nl => ⟨_, rfl, (by show 1 ≤ sizeLine; decide), fun b nb => ⟨(by show 4 ≤ sizeLine; decide), fun t nt => ?_⟩⟩⟩
      have hc4 := (same_new nt (.tup [.str "calc", .str sn, .ref l, .ref b])) _ _ ((same_new nb (.lst [V.int ((many : Int) + (code.length : Int))])) _ _ ((same_new nl (.lst [V.int r, V.int r2])) _ _ hc10))
      refine ⟨cp, _, _, rfl, rfl, hc4, small1000 (by omega), ?_⟩
      have hA := h10.push (x := ⟨"calc", .str sn, [r, r2], (many : Int) + (code.length : Int)⟩) rfl nl nb nt hc4 (rfl) (by simp only [List.mem_cons, List.not_mem_nil, or_false, forall_eq_or_imp, forall_eq]; exact ⟨f1, f2⟩) (.calc1 k sn r r2 _ hk k5 k6)
      exact qT _ st c cp sp H _ many _ safe _ _ _ _ _ _ hA (by rw [List.length_append, List.length_singleton]; omega) (Sf.last (show ("calc" : Str) ≠ "join" by decide +kernel)) (by simp) (by simp; omega) (by omega) (fun code' safe' H' v9' h' l' ls' => ⟨code', safe', _, _, _, _, _, rfl, h', by simp at l'; omega, by omega⟩)
    · refine ⟨_, rfl, rfl, _, rfl, ?_⟩
      refine ifF (by decide +kernel) ?_
      refine ⟨_, rfl, rfl, _, rfl, ?_⟩
      refine ifF (by decide +kernel) ?_
      refine ⟨_, rfl, rfl, _, rfl, ?_⟩
      refine ifF (by decide +kernel) ?_
      refine ⟨_, rfl, rfl, _, rfl, ?_⟩
      refine ifF (by decide +kernel) ?_
      refine ⟨_, rfl, rfl, _, rfl, ?_⟩
      refine ifF (by decide +kernel) ?_
      refine ⟨_, rfl, .inl ⟨rfl, _, SqL.of hc⟩, _, rfl, ?_⟩
      refine ⟨_, rfl, (by show 1 ≤ sizeLine; decide), fun l nl => ⟨_, rfl, (by show 1 ≤ sizeLine; decide), fun b nb => ⟨(by show 4 ≤ sizeLine; decide), fun t nt => ?_⟩⟩⟩
      have hc4 := (same_new nt (.tup [.str "flags", .non, .ref l, .ref b])) _ _ ((same_new nb (.lst [V.int ((many : Int) + (code.length : Int))])) _ _ ((same_new nl (.lst [V.int r])) _ _ hc))
      refine ⟨cp, _, _, rfl, rfl, hc4, small1000 (by omega), ?_⟩
      have hA := h8.push (x := ⟨"flags", .non, [r], (many : Int) + (code.length : Int)⟩) rfl nl nb nt hc4 (rfl) (by simp only [List.mem_cons, List.not_mem_nil, or_false, forall_eq_or_imp, forall_eq]; exact f1) (.flags r _)
      exact qT _ st c cp sp H _ many _ safe _ _ _ _ _ _ hA (by rw [List.length_append, List.length_singleton]; omega) (Sf.last (show ("flags" : Str) ≠ "join" by decide +kernel)) (by simp) (by simp; omega) (by omega) (fun code' safe' H' v9' h' l' ls' => ⟨code', safe', _, _, _, _, _, rfl, h', by simp at l'; omega, by omega⟩)
    · refine ⟨_, rfl, rfl, _, rfl, ?_⟩
      refine ifF (by decide +kernel) ?_
      refine ⟨_, rfl, rfl, _, rfl, ?_⟩
      refine ifF (by decide +kernel) ?_
      refine ⟨_, rfl, rfl, _, rfl, ?_⟩
      refine ifF (by decide +kernel) ?_
      refine ⟨_, rfl, rfl, _, rfl, ?_⟩
      refine ifF (by decide +kernel) ?_
      refine ⟨_, rfl, rfl, _, rfl, ?_⟩
      refine ifF (by decide +kernel) ?_
      refine ⟨_, rfl, .inl ⟨rfl, _, SqL.of hc⟩, _, rfl, ?_⟩
      refine ⟨_, rfl, (by show 1 ≤ sizeLine; decide), fun l nl => ⟨_, rfl, (by show 1 ≤ sizeLine; decide), fun b nb => ⟨(by show 4 ≤ sizeLine; decide), fun t nt => ?_⟩⟩⟩
      have hc4 := (same_new nt (.tup [.str "range", .non, .ref l, .ref b])) _ _ ((same_new nb (.lst [V.int ((many : Int) + (code.length : Int))])) _ _ ((same_new nl (.lst [V.int r])) _ _ hc))
      refine ⟨cp, _, _, rfl, rfl, hc4, small1000 (by omega), ?_⟩
      have hA := h8.push (x := ⟨"range", .non, [r], (many : Int) + (code.length : Int)⟩) rfl nl nb nt hc4 (rfl) (by simp only [List.mem_cons, List.not_mem_nil, or_false, forall_eq_or_imp, forall_eq]; exact f1) (.range r _)
      exact qT _ st c cp sp H _ many _ safe _ _ _ _ _ _ hA (by rw [List.length_append, List.length_singleton]; omega) (Sf.last (show ("range" : Str) ≠ "join" by decide +kernel)) (by simp) (by simp; omega) (by omega) (fun code' safe' H' v9' h' l' ls' => ⟨code', safe', _, _, _, _, _, rfl, h', by simp at l'; omega, by omega⟩)
    · refine ⟨_, rfl, rfl, _, rfl, ?_⟩
      refine ifF (by decide +kernel) ?_
      refine ⟨_, rfl, rfl, _, rfl, ?_⟩
      refine ifF (by decide +kernel) ?_
      refine ⟨_, rfl, rfl, _, rfl, ?_⟩
      refine ifF (by decide +kernel) ?_
      refine ⟨_, rfl, rfl, _, rfl, ?_⟩
      refine ifF (by decide +kernel) ?_
      refine ⟨_, rfl, rfl, _, rfl, ?_⟩
      refine ifT (by decide +kernel) ?_
      refine ⟨_, rfl, .inl ⟨rfl, _, SqL.of hc⟩, ?_⟩
      refine ⟨_, rfl, _, rfl, (by show 2 ≤ sizeLine; decide), fun l nl => ⟨_, rfl, (by show 1 ≤ sizeLine; decide), fun b nb => ⟨(by show 4 ≤ sizeLine; decide), fun t nt => ?_⟩⟩⟩
      have hc4 := (same_new nt (.tup [.str "same", .non, .ref l, .ref b])) _ _ ((same_new nb (.lst [V.int ((many : Int) + (code.length : Int))])) _ _ ((same_new nl (.lst [V.int r, V.int r2])) _ _ hc))
      refine ⟨cp, _, _, rfl, rfl, hc4, small1000 (by omega), ?_⟩
      have hA := h8.push (x := ⟨"same", .non, [r, r2], (many : Int) + (code.length : Int)⟩) rfl nl nb nt hc4 (rfl) (by simp only [List.mem_cons, List.not_mem_nil, or_false, forall_eq_or_imp, forall_eq]; exact ⟨f1, f2⟩) (.same r r2 _)
      exact qT _ st c cp sp H _ many _ safe _ _ _ _ _ _ hA (by rw [List.length_append, List.length_singleton]; omega) (Sf.last (show ("same" : Str) ≠ "join" by decide +kernel)) (by simp) (by simp; omega) (by omega) (fun code' safe' H' v9' h' l' ls' => ⟨code', safe', _, _, _, _, _, rfl, h', by simp at l'; omega, by omega⟩)
    · refine ⟨_, rfl, rfl, _, rfl, ?_⟩
      refine ifF (by decide +kernel) ?_
      refine ⟨_, rfl, rfl, _, rfl, ?_⟩
      refine ifF (by decide +kernel) ?_
      refine ⟨_, rfl, rfl, _, rfl, ?_⟩
      refine ifF (by decide +kernel) ?_
      refine ⟨_, rfl, rfl, _, rfl, ?_⟩
      refine ifT (by decide +kernel) ?_
      refine ⟨_, rfl, .inl ⟨rfl, _, SqL.of hc⟩, ?_⟩
      refine ⟨_, rfl, _, rfl, (by show 2 ≤ sizeLine; decide), fun l nl => ⟨_, rfl, (by show 1 ≤ sizeLine; decide), fun b nb => ⟨(by show 4 ≤ sizeLine; decide), fun t nt => ?_⟩⟩⟩
      have hc4 := (same_new nt (.tup [.str "join", .non, .ref l, .ref b])) _ _ ((same_new nb (.lst [V.int ((many : Int) + (code.length : Int))])) _ _ ((same_new nl (.lst [V.int r, V.int r2])) _ _ hc))
      refine ⟨cp, _, _, rfl, rfl, hc4, small1000 (by omega), ?_⟩
      have hA := h8.push (x := ⟨"join", .non, [r, r2], (many : Int) + (code.length : Int)⟩) rfl nl nb nt hc4 (rfl) (by simp only [List.mem_cons, List.not_mem_nil, or_false, forall_eq_or_imp, forall_eq]; exact ⟨f1, f2⟩) (.join r r2 _)
      have h11 : GenAt st c cp sp H (upd (upd (upd (upd H8 l (.lst [V.int r, V.int r2])) b (.lst [V.int ((many : Int) + (code.length : Int))])) t (.tup [.str "join", .non, .ref l, .ref b])) cp (.lst (vs ++ [.ref t]))) many (code ++ [(⟨"join", .non, [r, r2], (many : Int) + (code.length : Int)⟩ : In)]) safe := hA
      obtain ⟨vs2, hc2, hi2⟩ := h11.cd
      have hl2 := hi2.len
      rw [List.length_append, List.length_singleton] at hl2
      generalize (upd (upd (upd (upd H8 l (.lst [V.int r, V.int r2])) b (.lst [V.int ((many : Int) + (code.length : Int))])) t (.tup [.str "join", .non, .ref l, .ref b])) cp (.lst (vs ++ [.ref t]))) = H11 at h11 hc2 hi2 ⊢
      clear hA
      refine ⟨_, rfl, .inl ⟨rfl, _, SqL.of hc2⟩, ?_⟩
      refine ⟨_, rfl, (by show 1 ≤ sizeLine; decide), fun l nl => ⟨_, rfl, _, _, rfl, rfl, (by show 1 ≤ sizeLine; decide), fun b nb => ⟨(by show 4 ≤ sizeLine; decide), fun t nt => ?_⟩⟩⟩
      have hc4 := (same_new nt (.tup [.str "fill", .int 1, .ref l, .ref b])) _ _ ((same_new nb (.lst [V.int ((many : Int) + (code.length : Int) + 1)])) _ _ ((same_new nl (.lst [V.int r])) _ _ hc2))
      refine ⟨cp, _, _, rfl, rfl, hc4, small1000 (by omega), ?_⟩
      have hA := h11.push (x := ⟨"fill", .int 1, [r], (many : Int) + (code.length : Int) + 1⟩) rfl nl nb nt hc4 (by simp; omega) (by simp only [List.mem_cons, List.not_mem_nil, or_false, forall_eq_or_imp, forall_eq]; exact f1.mono (by simp) (Nat.le_refl _)) (.fill 1 r _ (by omega))
      refine ⟨_, rfl, _, _, rfl, rfl, ?_⟩
      have e3 : (many : Int) + (code.length : Int) + 1 = many + ((code ++ [(⟨"join", .non, [r, r2], (many : Int) + (code.length : Int)⟩ : In)]).length : Int) := by simp; omega
      exact qT _ st c cp sp H _ many _ safe _ _ _ _ _ _ hA (by rw [List.length_append, List.length_singleton]; omega) (by rw [e3]; exact Sf.last (show ("fill" : Str) ≠ "join" by decide +kernel)) (by simp) (by simp; omega) (by omega) (fun code' safe' H' v9' h' l' ls' => ⟨code', safe', _, _, _, _, _, rfl, h', by simp at l'; omega, by omega⟩)
    · refine ⟨_, rfl, rfl, _, rfl, ?_⟩
      refine ifF (by decide +kernel) ?_
      refine ⟨_, rfl, rfl, _, rfl, ?_⟩
      refine ifT (by decide +kernel) ?_
      refine ⟨_, rfl, .inl ⟨rfl, _, SqL.of hc⟩, ?_⟩
      refine ⟨_, rfl, (by show 5 ≤ sizeLine; decide), fun p2 hp2 => ?_⟩
      have np2 := St.new h8.go.2 hp2
      have h9 := h8.new (o := .lst [.str "+", .str "-", .str "*", .str "<", .str "="]) hp2
      have hc9 := (same_new hp2 (.lst [.str "+", .str "-", .str "*", .str "<", .str "="])) _ _ hc
      refine ⟨st, c, p2, _, rfl, h9.go.2, upd_same, np2.1, np2.2, by decide, by decide, fun HA sg gA hsg => ?_⟩
      have h10 := h9.step gA
      have hc10 := gA.1 _ _ h9.cn.1 h9.cn.2 hc9
      obtain ⟨k, sn, rfl, hk, k5, k6⟩ : ∃ (k : Nat) (sn : Str), sg = .str sn ∧ sgn[k]? = some sn ∧ k ≠ 5 ∧ k ≠ 6 := by
        simp only [List.mem_cons, List.not_mem_nil, or_false] at hsg
        rcases hsg with rfl | rfl | rfl | rfl | rfl
        · exact ⟨0, _, rfl, rfl, by decide, by decide⟩
        · exact ⟨1, _, rfl, rfl, by decide, by decide⟩
        · exact ⟨2, _, rfl, rfl, by decide, by decide⟩
        · exact ⟨7, _, rfl, rfl, by decide, by decide⟩
        · exact ⟨8, _, rfl, rfl, by decide, by decide⟩
      refine ⟨_, rfl, _, rfl, (by show 2 ≤ sizeLine; decide), fun l nl => ⟨_, rfl, (by show 1 ≤ sizeLine; decide), fun b nb => ⟨(by show 4 ≤ sizeLine; decide), fun t nt => ?_⟩⟩⟩
      have hc4 := (same_new nt (.tup [.str "calc", .str sn, .ref l, .ref b])) _ _ ((same_new nb (.lst [V.int ((many : Int) + (code.length : Int))])) _ _ ((same_new nl (.lst [V.int r, V.int r2])) _ _ hc10))
      refine ⟨cp, _, _, rfl, rfl, hc4, small1000 (by omega), ?_⟩
      have hA := h10.push (x := ⟨"calc", .str sn, [r, r2], (many : Int) + (code.length : Int)⟩) rfl nl nb nt hc4 (rfl) (by simp only [List.mem_cons, List.not_mem_nil, or_false, forall_eq_or_imp, forall_eq]; exact ⟨f1, f2⟩) (.calc1 k sn r r2 _ hk k5 k6)
      exact qT _ st c cp sp H _ many _ safe _ _ _ _ _ _ hA (by rw [List.length_append, List.length_singleton]; omega) (Sf.last (show ("calc" : Str) ≠ "join" by decide +kernel)) (by simp) (by simp; omega) (by omega) (fun code' safe' H' v9' h' l' ls' => ⟨code', safe', _, _, _, _, _, rfl, h', by simp at l'; omega, by omega⟩)
    · refine ⟨_, rfl, rfl, _, rfl, ?_⟩
      refine ifF (by decide +kernel) ?_
      refine ⟨_, rfl, rfl, _, rfl, ?_⟩
      refine ifF (by decide +kernel) ?_
      refine ⟨_, rfl, rfl, _, rfl, ?_⟩
      refine ifT (by decide +kernel) ?_
      refine ⟨_, rfl, .inl ⟨rfl, _, SqL.of hc⟩, ?_⟩
      refine ⟨_, rfl, (by show 2 ≤ sizeLine; decide), fun p2 hp2 => ?_⟩
      have np2 := St.new h8.go.2 hp2
      have h9 := h8.new (o := .lst [.str "/", .str "mod"]) hp2
      have hc9 := (same_new hp2 (.lst [.str "/", .str "mod"])) _ _ hc
      refine ⟨st, c, p2, _, rfl, h9.go.2, upd_same, np2.1, np2.2, by decide, by decide, fun HA sg gA hsg => ?_⟩
      have h10 := h9.step gA
      have hc10 := gA.1 _ _ h9.cn.1 h9.cn.2 hc9
      obtain ⟨k, sn, rfl, hk, k5, k6⟩ : ∃ (k : Nat) (sn : Str), sg = .str sn ∧ sgn[k]? = some sn ∧ k ≠ 5 ∧ k ≠ 6 := by
        simp only [List.mem_cons, List.not_mem_nil, or_false] at hsg
        rcases hsg with rfl | rfl
        · exact ⟨3, _, rfl, rfl, by decide, by decide⟩
        · exact ⟨4, _, rfl, rfl, by decide, by decide⟩
      refine ⟨_, rfl, _, rfl, (by show 2 ≤ sizeLine; decide), fun l nl => ⟨_, rfl, (by show 1 ≤ sizeLine; decide), fun b nb => ⟨(by show 4 ≤ sizeLine; decide), fun t nt => ?_⟩⟩⟩
      have hc4 := (same_new nt (.tup [.str "calc", .str sn, .ref l, .ref b])) _ _ ((same_new nb (.lst [V.int ((many : Int) + (code.length : Int))])) _ _ ((same_new nl (.lst [V.int r, V.int r2])) _ _ hc10))
      refine ⟨cp, _, _, rfl, rfl, hc4, small1000 (by omega), ?_⟩
      have hA := h10.push (x := ⟨"calc", .str sn, [r, r2], (many : Int) + (code.length : Int)⟩) rfl nl nb nt hc4 (rfl) (by simp only [List.mem_cons, List.not_mem_nil, or_false, forall_eq_or_imp, forall_eq]; exact ⟨f1, f2⟩) (.calc1 k sn r r2 _ hk k5 k6)
      exact qT _ st c cp sp H _ many _ safe _ _ _ _ _ _ hA (by rw [List.length_append, List.length_singleton]; omega) (Sf.last (show ("calc" : Str) ≠ "join" by decide +kernel)) (by simp) (by simp; omega) (by omega) (fun code' safe' H' v9' h' l' ls' => ⟨code', safe', _, _, _, _, _, rfl, h', by simp at l'; omega, by omega⟩)
  · rintro σ H4 ⟨code, safe, v3, v6, v7, v8, v9, rfl, h4, l3, ls⟩
    refine ⟨_, rfl, _, rfl, (by show 2 ≤ sizeLine; decide), fun x nx => ?_⟩
    have h5 := h4.new (o := .lst [.ref cp, .ref sp]) nx
    have nn := St.new h4.go.2 nx
    have fr : H x = none := by
      cases z : H x with
      | none => rfl
      | some o => have := h4.go.1 _ _ nn.1 nn.2 z; rw [nx] at this; cases this
    exact q _ x cp sp code safe h5 (by omega) (by omega) nn.1 nn.2 fr upd_same
end
end K11

namespace K11
open PySem PySem.Spec PyProof.Rows L2
/-- a call of the other block, as the last instruction -/
inductive CallIn : In → Prop
  | mk (r q o : Int) : CallIn ⟨"call", .str "other", [0, r, q], o⟩
/-- a block: its code, the register that it gives -/
structure Bk where
  code : List In
  res : Int
def NumAt (X : List Addr) (H : Hp) (v : V) : Prop := ∃ a, v = .ref a ∧ H a = some (.tup [.str "num"]) ∧ a ∉ X
def PairAt (X : List Addr) (H : Hp) (v : V) : Prop := ∃ a x y, v = .ref a ∧ H a = some (.tup [.str "pair", x, y]) ∧ a ∉ X ∧ NumAt X H x ∧ NumAt X H y
def BlkAt (X : List Addr) (H : Hp) (nm : Str) (b : Bk) (v : V) : Prop := ∃ (t cp rp : Addr) (pv nv : V) (vs : List V), v = .ref t ∧ H t = some (.tup [.str "block", .str nm, pv, nv, .ref cp, .ref rp]) ∧ PairAt X H pv ∧ NumAt X H nv ∧ H cp = some (.lst vs) ∧ InsAt X H b.code vs ∧ H rp = some (.lst [.int b.res]) ∧ t ∉ X ∧ cp ∉ X ∧ rp ∉ X
theorem NumAt.fr {X : List Addr} {H H' : Hp} {v : V} (s : Fr X H H') : NumAt X H v → NumAt X H' v := fun ⟨a, e, h, n⟩ => ⟨a, e, s _ _ n h, n⟩
theorem PairAt.fr {X : List Addr} {H H' : Hp} {v : V} (s : Fr X H H') : PairAt X H v → PairAt X H' v := fun ⟨a, x, y, e, h, n, h1, h2⟩ => ⟨a, x, y, e, s _ _ n h, n, h1.fr s, h2.fr s⟩
theorem InAt.weak {X Y : List Addr} {H : Hp} {x : In} {v : V} (s : ∀ b, b ∈ Y → b ∈ X) (h : InAt X H x v) : InAt Y H x v := by
  obtain ⟨t, a, b, e, h1, h2, h3, n1, n2, n3⟩ := h
  exact ⟨t, a, b, e, h1, h2, h3, fun z => n1 (s _ z), fun z => n2 (s _ z), fun z => n3 (s _ z)⟩
theorem InsAt.weak {X Y : List Addr} {H : Hp} (s : ∀ b, b ∈ Y → b ∈ X) : ∀ {code : List In} {vs : List V}, InsAt X H code vs → InsAt Y H code vs
  | [], [], _ => trivial
  | _ :: _, _ :: _, ⟨a, b⟩ => ⟨a.weak s, b.weak s⟩
  | [], _ :: _, h => h.elim
  | _ :: _, [], h => h.elim
theorem BlkAt.fr {X : List Addr} {H H' : Hp} {nm : Str} {b : Bk} {v : V} (s : Fr X H H') (h : BlkAt X H nm b v) : BlkAt X H' nm b v := by
  obtain ⟨t, cp, rp, pv, nv, vs, e, h1, h2, h3, h4, h5, h6, n1, n2, n3⟩ := h
  exact ⟨t, cp, rp, pv, nv, vs, e, s _ _ n1 h1, h2.fr s, h3.fr s, s _ _ n2 h4, h5.fr s, s _ _ n3 h6, n1, n2, n3⟩
theorem newAt {st c p : Addr} {H : Hp} {o : HO} (S : StAt H st c) (n : H p = none) : ∃ H', H' = upd H p o ∧ Go st c H H' ∧ H' p = some o ∧ p ∉ [st, c] := by
  have m := St.new S n
  exact ⟨_, rfl, Go.same S (same_new n o), upd_same, fun z => by
    simp only [List.mem_cons, List.not_mem_nil, or_false] at z
    rcases z with z | z
    · exact m.1 z
    · exact m.2 z⟩
theorem Fr.gg {st c : Addr} {H H' : Hp} (g : Go st c H H') : Fr [st, c] H H' := Fr.go g.1 (by simp) (by simp)
/-- a block without calls -/
structure BkOk (b : Bk) : Prop where
  ok : Okc 3 b.code
  ln : b.code.length ≤ 36
  rs : Sf 3 b.code b.code.length b.res
/-- the first block may end with a call of the other -/
def MainOk (b : Bk) : Prop := BkOk b ∨ ∃ (code : List In) (r q : Int), b.code = code ++ [⟨"call", .str "other", [0, r, q], 3 + (code.length : Int)⟩] ∧ Okc 3 code ∧ code.length ≤ 36 ∧ Sf 3 code code.length r ∧ Sf 3 code code.length q ∧ (b.res = 3 + (code.length : Int) ∨ Sf 3 code code.length b.res)
theorem outs_get {many : Nat} {code : List In} (h : Okc many code) : code.map (·.out) = (List.range code.length).map fun (k : Nat) => (many : Int) + (k : Int) := by
  refine List.ext_getElem (by simp) fun k h1 h2 => ?_
  simp only [List.length_map] at h1
  have := h.out k code[k] (List.getElem?_eq_getElem h1)
  simp [this]
theorem most {code : List In} (h : Okc 3 code) {m : Int} (hm : m ∈ 0 :: (code.map (·.out)) ++ [2]) (hx : ∀ y, y ∈ 0 :: (code.map (·.out)) ++ [2] → y ≤ m) : 1 + m = 3 + (code.length : Int) := by
  rw [outs_get h] at hm hx
  have h2 := hx 2 (by simp)
  by_cases c : code.length = 0
  · rw [c] at hm ⊢
    simp at hm
    omega
  · have := hx (3 + ((code.length - 1 : Nat) : Int)) (List.mem_append_left _ (List.mem_cons_of_mem _ (List.mem_map.mpr ⟨code.length - 1, List.mem_range.mpr (by omega), rfl⟩)))
    have up : m ≤ 2 + (code.length : Int) := by
      simp only [List.cons_append, List.mem_cons, List.mem_append, List.mem_map, List.mem_range, List.not_mem_nil, or_false] at hm
      rcases hm with rfl | ⟨k, hk, rfl⟩ | rfl <;> omega
    omega
end K11

namespace K11
open PySem PySem.Spec PyProof.Rows L2
section
variable {P : Program} {w : World} {K : PySem.W.Frag} {mg : Str → Option Value} {base : Heap} {a : Ad}
def spBlocks : Sp := fun vs H Q _ => ∃ (st c : Addr), vs = [.ref st] ∧ StAt H st c ∧
  ∀ (H' : Hp) (q : Addr) (v1 v2 : V) (b1 b2 : Bk), Go st c H H' → H' q = some (.lst [v1, v2]) → q ∉ [st, c] → BlkAt [st, c] H' "main" b1 v1 → BlkAt [st, c] H' "other" b2 v2 → MainOk b1 → BkOk b2 → Q (.ref q) H'
theorem InsAt.get {X : List Addr} {H : Hp} {v : V} : ∀ {code : List In} {vs : List V} {k : Nat}, InsAt X H code vs → vs[k]? = some v → ∃ x, code[k]? = some x ∧ InAt X H x v
  | x :: _, w :: _, 0, ⟨h, _⟩, e => ⟨x, rfl, by obtain rfl : w = v := Option.some.inj e; exact h⟩
  | _ :: _, _ :: _, k + 1, ⟨_, h⟩, e => h.get (k := k) e
  | _, [], k, _, e => by simp at e
  | [], _ :: _, _, h, _ => h.elim
theorem pair2 {a b : Addr} : ∀ z, z ∈ [a, b] → ∀ {x y : Addr}, z ∈ [a, b, x, y] := fun z h {x y} => by
  simp only [List.mem_cons, List.not_mem_nil, or_false] at h ⊢
  rcases h with h | h
  · exact .inl h
  · exact .inr (.inl h)
theorem ok_law_blocks (T : Txt w K mg a) : FnOk P w K mg base CX0 5 a.law_blocks.1 a.law_blocks.2 ["state"] spBlocks := by
  refine T.law_blocks.F.ok sc_law_blocks (fun vs H Q E h => ?_) (fun cdv A outer s H vs Q E hr h => ?_)
  · obtain ⟨_, _, rfl, _⟩ := h
    rfl
  obtain ⟨st, c, rfl, hS, q⟩ := h
  have nd := sc_law_blocks.nd
  have G_law_draw := ok_law_draw (P := P) (w := w) (base := base) T
  have G_law_pick := ok_law_pick (P := P) (w := w) (base := base) T
  have G_law_code := ok_law_code (P := P) (w := w) (base := base) T
  refine ⟨_, (pss_cons (ps_asg (pe_call G_law_code (hr.mono (by omega)) rfl T.law_code.g T.law_code.F.kp T.law_code.b .nil pass0 (pa_cons (pv 0) (pa_cons pe_int pa_nil))) (pg_unl rfl (pgs_cons (pg_name (i := 1) nd rfl (Or.inl rfl)) (pgs_cons (pg_name (i := 2) nd rfl (Or.inl rfl)) pgs_nil))))
  (pss_cons (ps_set (i := 3) nd rfl (Or.inl rfl) (pe_lst (pa_cons (pe_call G_law_pick (hr.mono (by omega)) rfl T.law_pick.g T.law_pick.F.kp T.law_pick.b .nil pass0 (pa_cons (pv 0) (pa_cons (pv 2) pa_nil))) pa_nil)))
  (pss_cons (ps_set (i := 4) nd rfl (Or.inl rfl) (pe_tup (pa_cons pe_str (pa_cons (pe_tup (pa_cons pe_str pa_nil)) (pa_cons (pe_tup (pa_cons pe_str pa_nil)) pa_nil)))))
  (pss_cons (ps_set (i := 5) nd rfl (Or.inl rfl) (pe_tup (pa_cons pe_str (pa_cons pe_str (pa_cons (pv 4) (pa_cons (pe_tup (pa_cons pe_str pa_nil)) (pa_cons (pv 1) (pa_cons (pv 3) pa_nil))))))))
  (pss_cons (ps_set (i := 6) nd rfl (Or.inl rfl) (pe_call G_law_code (hr.mono (by omega)) rfl T.law_code.g T.law_code.F.kp T.law_code.b .nil pass0 (pa_cons (pv 0) (pa_cons pe_int pa_nil))))
  (pss_cons (ps_set (i := 7) nd rfl (Or.inl rfl) (pe_tup (pa_cons pe_str (pa_cons pe_str (pa_cons (pv 4) (pa_cons (pe_tup (pa_cons pe_str pa_nil)) (pa_cons (pe_ix ix_list (pv 6) pe_int (fun _ _ => rfl)) (pa_cons (pe_lst (pa_cons (pe_call G_law_pick (hr.mono (by omega)) rfl T.law_pick.g T.law_pick.F.kp T.law_pick.b .nil pass0 (pa_cons (pv 0) (pa_cons (pe_ix ix_list (pv 6) pe_int (fun _ _ => rfl)) pa_nil))) pa_nil)) pa_nil))))))))
  (pss_cons (ps_set (i := 8) nd rfl (Or.inl rfl) (pe_op op_add pe_int (pe_callB (cr_max rfl) (by rfl) T.max (by decide +kernel) (pa_cons (pe_op op_cat (pe_op op_cat (pe_lst (pa_cons pe_int pa_nil)) (pe_lc (own := [("part", 10)]) (g := gName 10) (tt := tYes) rfl nd (pi_list (pv 1)) (blkOk_by (N := ["state", "code", "safe", "results", "pair", "main", "inner", "other", "number", "call", "part"]) (sc := defScope s_law_blocks) (by decide +kernel)) (fun _ _ _ _ _ => (pg_name (i := 10) nd rfl (Or.inl rfl))) (fun _ _ _ _ _ => pts_nil) (fun _ _ _ _ _ => (pe_ix (ix_listK (K := K) rfl) (pe_ix (ix_tupK (K := K) rfl) (pv 10) pe_int (fun _ _ => rfl)) pe_int (fun _ _ => rfl))))) (pe_lst (pa_cons pe_int pa_nil))) pa_nil))))
  (pss_cons (ps_if (pt_cmpR op_eq (pe_call G_law_draw (hr.mono (by omega)) rfl T.law_draw.g T.law_draw.F.kp T.law_draw.b .nil pass0 (pa_cons (pv 0) (pa_cons pe_int pa_nil))) pe_int (nomark _)) (pss_cons (ps_set (i := 9) nd rfl (Or.inl rfl) (pe_tup (pa_cons pe_str (pa_cons pe_str (pa_cons (pe_lst (pa_cons pe_int (pa_cons (pe_call G_law_pick (hr.mono (by omega)) rfl T.law_pick.g T.law_pick.F.kp T.law_pick.b .nil pass0 (pa_cons (pv 0) (pa_cons (pv 2) pa_nil))) (pa_cons (pe_call G_law_pick (hr.mono (by omega)) rfl T.law_pick.g T.law_pick.F.kp T.law_pick.b .nil pass0 (pa_cons (pv 0) (pa_cons (pv 2) pa_nil))) pa_nil)))) (pa_cons (pe_lst (pa_cons (pv 8) pa_nil)) pa_nil))))))
  (pss_one (ps_set (i := 5) nd rfl (Or.inl rfl) (pe_tup (pa_cons pe_str (pa_cons pe_str (pa_cons (pv 4) (pa_cons (pe_tup (pa_cons pe_str pa_nil)) (pa_cons (pe_op op_cat (pv 1) (pe_lst (pa_cons (pv 9) pa_nil))) (pa_cons (pe_lst (pa_cons (pe_call G_law_pick (hr.mono (by omega)) rfl T.law_pick.g T.law_pick.F.kp T.law_pick.b .nil pass0 (pa_cons (pv 0) (pa_cons (pe_lst (pa_cons (pv 8) (pa_cons (pe_ix ix_list (pv 3) pe_int (fun _ _ => rfl)) pa_nil))) pa_nil))) pa_nil)) pa_nil)))))))))) pss_nil)
  (pss_one (ps_ret (pe_lst (pa_cons (pv 5) (pa_cons (pv 7) pa_nil))))))))))))), ?_⟩
  refine ⟨_, rfl, st, c, 3, rfl, by decide, by decide, hS, fun H1 q1 cp sp code safe h1 l36 l30 n1 n2 fq hq => ?_⟩
  refine ⟨q1, _, rfl, SqL.of hq, rfl, _, _, rfl, _, _, rfl, rfl, ?_⟩
  refine ⟨_, rfl, _, rfl, st, c, sp, iv safe, rfl, h1.go.2, h1.sa, h1.sn.1, h1.sn.2, by rw [iv_len]; exact List.length_pos_iff.mpr h1.nn, by rw [iv_len]; omega, fun H2 x2 g2 hx2 => ?_⟩
  obtain ⟨r, hr2, rfl⟩ := List.mem_map.mp hx2
  have S_H2 := g2.2
  refine ⟨(by show 1 ≤ sizeLine; decide), fun rp nrp => ?_⟩
  obtain ⟨H3, e_rp, g_rp, a_rp, n_rp⟩ := newAt S_H2 nrp (o := .lst [V.int r])
  rw [← e_rp]
  have S_H3 := g_rp.2
  refine ⟨(by show 1 ≤ sizeLine; decide), fun ta nta => ?_⟩
  obtain ⟨H4, e_ta, g_ta, a_ta, n_ta⟩ := newAt S_H3 nta (o := .tup [.str "num"])
  rw [← e_ta]
  have S_H4 := g_ta.2
  refine ⟨(by show 1 ≤ sizeLine; decide), fun tb ntb => ?_⟩
  obtain ⟨H5, e_tb, g_tb, a_tb, n_tb⟩ := newAt S_H4 ntb (o := .tup [.str "num"])
  rw [← e_tb]
  have S_H5 := g_tb.2
  refine ⟨(by show 3 ≤ sizeLine; decide), fun pp npp => ?_⟩
  obtain ⟨H6, e_pp, g_pp, a_pp, n_pp⟩ := newAt S_H5 npp (o := .tup [.str "pair", .ref ta, .ref tb])
  rw [← e_pp]
  have S_H6 := g_pp.2
  refine ⟨_, rfl, (by show 1 ≤ sizeLine; decide), fun tc ntc => ?_⟩
  obtain ⟨H7, e_tc, g_tc, a_tc, n_tc⟩ := newAt S_H6 ntc (o := .tup [.str "num"])
  rw [← e_tc]
  have S_H7 := g_tc.2
  refine ⟨_, rfl, _, rfl, (by show 6 ≤ sizeLine; decide), fun tm ntm => ?_⟩
  obtain ⟨H8, e_tm, g_tm, a_tm, n_tm⟩ := newAt S_H7 ntm (o := .tup [.str "block", .str "main", .ref pp, .ref tc, .ref cp, .ref rp])
  rw [← e_tm]
  have S_H8 := g_tm.2
  have gA : Go st c H2 H8 := ((((g_rp.trans g_ta).trans g_tb).trans g_pp).trans g_tc).trans g_tm
  have hP : PairAt [st, c] H8 (.ref pp) := ⟨pp, .ref ta, .ref tb, rfl, (Fr.gg (g_tc.trans g_tm)) _ _ n_pp a_pp, n_pp, ⟨ta, rfl, (Fr.gg (((g_tb.trans g_pp).trans g_tc).trans g_tm)) _ _ n_ta a_ta, n_ta⟩, ⟨tb, rfl, (Fr.gg ((g_pp.trans g_tc).trans g_tm)) _ _ n_tb a_tb, n_tb⟩⟩
  have hN : NumAt [st, c] H8 (.ref tc) := ⟨tc, rfl, (Fr.gg g_tm) _ _ n_tc a_tc, n_tc⟩
  have hR : H8 rp = some (.lst [.int r]) := (Fr.gg ((((g_ta.trans g_tb).trans g_pp).trans g_tc).trans g_tm)) _ _ n_rp a_rp
  have h8 := h1.step (g2.trans gA)
  clear e_rp e_ta e_tb e_pp e_tc e_tm
  refine ⟨_, rfl, st, c, 3, rfl, by decide, by decide, h8.go.2, fun H9 q2 cp2 sp2 code2 safe2 h9 m36 m30 k1 k2 fq2 hq2 => ?_⟩
  have g9 := h9.go
  have nq2 : q2 ∉ [st, c] := fun z => by
    simp only [List.mem_cons, List.not_mem_nil, or_false] at z
    rcases z with z | z
    · exact k1 z
    · exact k2 z
  refine ⟨_, rfl, (by show 1 ≤ sizeLine; decide), fun td ntd => ?_⟩
  have S_H9 := h9.go.2
  obtain ⟨HA, e_td, g_td, a_td, n_td⟩ := newAt S_H9 ntd (o := .tup [.str "num"])
  rw [← e_td]
  have S_HA := g_td.2
  have hq3 := (Fr.gg g_td) _ _ nq2 hq2
  refine ⟨_, rfl, q2, _, _, _, rfl, rfl, SqL.of hq3, rfl, _, rfl, _, rfl, q2, _, _, _, rfl, rfl, SqL.of hq3, rfl, ?_⟩
  have hA := h9.step g_td
  refine ⟨st, c, sp2, iv safe2, rfl, hA.go.2, hA.sa, hA.sn.1, hA.sn.2, by rw [iv_len]; exact List.length_pos_iff.mpr hA.nn, by rw [iv_len]; omega, fun HB xB gB hxB => ?_⟩
  obtain ⟨r2, hrB, rfl⟩ := List.mem_map.mp hxB
  have S_HB := gB.2
  refine ⟨(by show 1 ≤ sizeLine; decide), fun rq nrq => ?_⟩
  obtain ⟨HC, e_rq, g_rq, a_rq, n_rq⟩ := newAt S_HB nrq (o := .lst [V.int r2])
  rw [← e_rq]
  have S_HC := g_rq.2
  refine ⟨(by show 6 ≤ sizeLine; decide), fun to nto => ?_⟩
  obtain ⟨HD, e_to, g_to, a_to, n_to⟩ := newAt S_HC nto (o := .tup [.str "block", .str "other", .ref pp, .ref td, .ref cp2, .ref rq])
  rw [← e_to]
  have S_HD := g_to.2
  have gD : Go st c HA HD := (gB.trans g_rq).trans g_to
  have hD := hA.step gD
  have g89 := g9.trans (g_td.trans gD)
  obtain ⟨ws, hc2, hi2⟩ := hD.cd
  have ncp : ∀ {cp : Addr}, cp ≠ st ∧ cp ≠ c → cp ∉ [st, c] := fun {cp} n z => by
    simp only [List.mem_cons, List.not_mem_nil, or_false] at z
    rcases z with z | z
    · exact n.1 z
    · exact n.2 z
  have hOther : BlkAt [st, c] HD "other" ⟨code2, r2⟩ (.ref to) := ⟨to, cp2, rq, .ref pp, .ref td, ws, rfl, a_to, hP.fr (Fr.gg g89), ⟨td, rfl, (Fr.gg gD) _ _ n_td a_td, n_td⟩, hc2, hi2.weak (fun z h => pair2 z h), (Fr.gg g_to) _ _ n_rq a_rq, n_to, ncp hD.cn, n_rq⟩
  have okO : BkOk ⟨code2, r2⟩ := ⟨hD.ok, m36, hD.sf r2 hrB⟩
  have hE := h8.step g89
  obtain ⟨us, hc1, hi1⟩ := hE.cd
  have hMain : BlkAt [st, c] HD "main" ⟨code, r⟩ (.ref tm) := ⟨tm, cp, rp, .ref pp, .ref tc, us, rfl, (Fr.gg g89) _ _ n_tm a_tm, hP.fr (Fr.gg g89), hN.fr (Fr.gg g89), hc1, hi1.weak (fun z h => pair2 z h), (Fr.gg g89) _ _ n_rp hR, n_tm, ncp hE.cn, n_rp⟩
  have okM : BkOk ⟨code, r⟩ := ⟨hE.ok, l36, hE.sf r hr2⟩
  have S_HD := hD.go.2
  refine ⟨(by show 1 ≤ sizeLine; decide), fun z nz => ?_⟩
  obtain ⟨HE, e_z, g_z, a_z, n_z⟩ := newAt S_HD nz (o := .lst [V.int 0])
  rw [← e_z]
  have S_HE := g_z.2
  have hc1E := (Fr.gg g_z) _ _ (ncp hE.cn) hc1
  have hi1E : InsAt [st, c] HE code us := (hi1.weak (fun z h => pair2 z h)).fr (Fr.gg g_z)
  refine ⟨_, rfl, cp, rfl, ⟨_, SqL.of hc1E⟩, fun D nD => lc_it (walk_list (K := K) (a := cp) (xs := us)) (fun i H1 => Same HE H1 ∧ H1 D = some (.lst (iv ((code.map (·.out)).take i)))) ⟨same_new nD _, upd_same⟩ (fun i H1 _ h => SqL.of (h.1 _ _ hc1E)) ?_ ?_⟩
  · rintro i x Hx Hy hi ⟨sm, hD1⟩ ⟨rfl, hx⟩
    obtain ⟨y, ey, t, aa, bb, rfl, ht, _, hbb, _⟩ := hi1E.get hx
    have il := (List.getElem?_eq_some_iff.mp ey).1
    refine ⟨rfl, _, rfl, t, _, _, _, rfl, rfl, .inl (.inl (sm _ _ ht)), atI_nat (j := 3) rfl, bb, _, _, _, rfl, rfl, SqL.of (sm _ _ hbb), atI_nat (j := 0) rfl, tick sm nD hD1 (fun _ _ e => e) ?_ ?_⟩
    · rw [List.take_add_one, List.getElem?_map, ey]; simp [iv]
    · rw [iv_len, List.length_take]; unfold NN; omega
  rintro HF ⟨smF, hDF⟩
  have ul := hi1E.len
  rw [List.take_of_length_le (by rw [List.length_map]; omega)] at hDF
  have gF := Go.same S_HE smF
  have S_HF := gF.2
  refine ⟨z, D, _, _, rfl, rfl, smF _ _ a_z, hDF, by rw [iv_len, List.length_map]; show 1 + _ ≤ sizeLine; exact Nat.le_trans (show _ ≤ 1000 by omega) (by decide), fun d nd' => ?_⟩
  have nd_ := nd'
  obtain ⟨HG, e_d_, g_d_, a_d_, n_d_⟩ := newAt (p := d) S_HF nd' (o := .lst ([V.int 0] ++ iv (code.map (·.out))))
  rw [← e_d_]
  have S_HG := g_d_.2
  refine ⟨(by show 1 ≤ sizeLine; decide), fun w2 nw2 => ?_⟩
  obtain ⟨HH, e_w2, g_w2, a_w2, n_w2⟩ := newAt S_HG nw2 (o := .lst [V.int 2])
  rw [← e_w2]
  have S_HH := g_w2.2
  refine ⟨d, w2, _, _, rfl, rfl, (Fr.gg g_w2) _ _ n_d_ a_d_, a_w2, by rw [List.length_append, iv_len, List.length_map]; show 1 + _ + 1 ≤ sizeLine; exact Nat.le_trans (show _ ≤ 1000 by omega) (by decide), fun e5 ne5 => ?_⟩
  obtain ⟨HI, e_e5, g_e5, a_e5, n_e5⟩ := newAt S_HH ne5 (o := .lst ([V.int 0] ++ iv (code.map (·.out)) ++ [V.int 2]))
  rw [← e_e5]
  have S_HI := g_e5.2
  refine ⟨e5, 0 :: (code.map (·.out)) ++ [2], rfl, SqL.of (by rw [a_e5]; simp [iv]), by simp, fun m hm hmx => ?_⟩
  have em := most hE.ok hm hmx
  refine ⟨_, _, rfl, rfl, ?_⟩
  have gI : Go st c HD HI := (((g_z.trans gF).trans g_d_).trans g_w2).trans g_e5
  refine ⟨_, rfl, st, c, 2, rfl, S_HI, by decide, by decide, fun HJ n gJ _ _ => ?_⟩
  have gDJ := gI.trans gJ
  have S_HJ := gJ.2
  have hOJ := hOther.fr (Fr.gg gDJ)
  have g1J := (g2.trans gA).trans (g89.trans gDJ)
  refine ⟨rfl, _, rfl, ?_⟩
  refine ite2 (fun _ => ?_) (fun _ => ?_)
  · have hJ := hE.step gDJ
    refine ⟨_, rfl, _, rfl, st, c, sp, iv safe, rfl, S_HJ, hJ.sa, hJ.sn.1, hJ.sn.2, by rw [iv_len]; exact List.length_pos_iff.mpr hJ.nn, by rw [iv_len]; omega, fun HK xK gK hxK => ?_⟩
    obtain ⟨ra, hra, rfl⟩ := List.mem_map.mp hxK
    have hK := hJ.step gK
    refine ⟨_, rfl, _, rfl, st, c, sp, iv safe, rfl, gK.2, hK.sa, hK.sn.1, hK.sn.2, by rw [iv_len]; exact List.length_pos_iff.mpr hJ.nn, by rw [iv_len]; omega, fun HL xL gL hxL => ?_⟩
    obtain ⟨rb, hrb, rfl⟩ := List.mem_map.mp hxL
    have S_HL := gL.2
    refine ⟨(by show 3 ≤ sizeLine; decide), fun ca nca => ?_⟩
    obtain ⟨HM, e_ca, g_ca, a_ca, n_ca⟩ := newAt S_HL nca (o := .lst [V.int 0, V.int ra, V.int rb])
    rw [← e_ca]
    have S_HM := g_ca.2
    refine ⟨_, rfl, (by show 1 ≤ sizeLine; decide), fun cb ncb => ?_⟩
    obtain ⟨HN, e_cb, g_cb, a_cb, n_cb⟩ := newAt S_HM ncb (o := .lst [V.int (1 + m)])
    rw [← e_cb]
    have S_HN := g_cb.2
    refine ⟨(by show 4 ≤ sizeLine; decide), fun ct nct => ?_⟩
    obtain ⟨HO, e_ct, g_ct, a_ct, n_ct⟩ := newAt S_HN nct (o := .tup [.str "call", .str "other", .ref ca, .ref cb])
    rw [← e_ct]
    have S_HO := g_ct.2
    refine ⟨_, rfl, (by show 1 ≤ sizeLine; decide), fun tn ntn => ?_⟩
    obtain ⟨HP, e_tn, g_tn, a_tn, n_tn⟩ := newAt S_HO ntn (o := .tup [.str "num"])
    rw [← e_tn]
    have S_HP := g_tn.2
    refine ⟨_, rfl, _, rfl, (by show 1 ≤ sizeLine; decide), fun w3 nw3 => ?_⟩
    obtain ⟨HQ, e_w3, g_w3, a_w3, n_w3⟩ := newAt S_HP nw3 (o := .lst [.ref ct])
    rw [← e_w3]
    have S_HQ := g_w3.2
    have gJQ : Go st c HJ HQ := ((((((gK.trans gL).trans g_ca).trans g_cb).trans g_ct).trans g_tn).trans g_w3)
    have hcQ := (Fr.gg (gDJ.trans gJQ)) _ _ (ncp hE.cn) hc1
    refine ⟨cp, w3, _, _, rfl, rfl, hcQ, a_w3, by rw [ul]; show _ + 1 ≤ sizeLine; exact Nat.le_trans (show _ ≤ 1000 by omega) (by decide), fun cc ncc => ?_⟩
    obtain ⟨HR, e_cc, g_cc, a_cc, n_cc⟩ := newAt S_HQ ncc (o := .lst (us ++ [.ref ct]))
    rw [← e_cc]
    have S_HR := g_cc.2
    have hRr := (Fr.gg (g89.trans (gDJ.trans (gJQ.trans g_cc)))) _ _ n_rp hR
    refine ⟨_, rfl, _, rfl, _, rfl, rp, _, _, _, rfl, rfl, SqL.of hRr, rfl, (by show 2 ≤ sizeLine; decide), fun pl npl => ?_⟩
    obtain ⟨HS, e_pl, g_pl, a_pl, n_pl⟩ := newAt S_HR npl (o := .lst [V.int (1 + m), V.int r])
    rw [← e_pl]
    have S_HS := g_pl.2
    have npl2 := St.new S_HR npl
    refine ⟨st, c, pl, _, rfl, S_HS, a_pl, npl2.1, npl2.2, by show 0 < 2; decide, by show 2 ≤ 1000; decide, fun HT x gT hx => ?_⟩
    have S_HT := gT.2
    obtain ⟨res, rfl, hres⟩ : ∃ res : Int, x = .int res ∧ (res = 1 + m ∨ res = r) := by
      simp only [List.mem_cons, List.not_mem_nil, or_false] at hx
      rcases hx with rfl | rfl
      · exact ⟨_, rfl, .inl rfl⟩
      · exact ⟨_, rfl, .inr rfl⟩
    refine ⟨(by show 1 ≤ sizeLine; decide), fun rr nrr => ?_⟩
    obtain ⟨HU, e_rr, g_rr, a_rr, n_rr⟩ := newAt S_HT nrr (o := .lst [V.int res])
    rw [← e_rr]
    have S_HU := g_rr.2
    refine ⟨(by show 6 ≤ sizeLine; decide), fun tm2 ntm2 => ?_⟩
    obtain ⟨HV, e_tm2, g_tm2, a_tm2, n_tm2⟩ := newAt S_HU ntm2 (o := .tup [.str "block", .str "main", .ref pp, .ref tn, .ref cc, .ref rr])
    rw [← e_tm2]
    have S_HV := g_tm2.2
    refine ⟨_, rfl, _, rfl, (by show 2 ≤ sizeLine; decide), fun qq nqq => ?_⟩
    obtain ⟨HW, e_qq, g_qq, a_qq, n_qq⟩ := newAt S_HV nqq (o := .lst [.ref tm2, .ref to])
    rw [← e_qq]
    have S_HW := g_qq.2
    have gJW : Go st c HJ HW := ((((((((((((gK.trans gL).trans g_ca).trans g_cb).trans g_ct).trans g_tn).trans g_w3).trans g_cc).trans g_pl).trans gT).trans g_rr).trans g_tm2).trans g_qq)
    have fDW := Fr.gg (gDJ.trans gJW)
    have call : InAt [st, c] HW ⟨"call", .str "other", [0, ra, rb], 1 + m⟩ (.ref ct) := ⟨ct, ca, cb, rfl, (Fr.gg (((((((g_tn.trans g_w3).trans g_cc).trans g_pl).trans gT).trans g_rr).trans g_tm2).trans g_qq)) _ _ n_ct a_ct, (Fr.gg (((((((((g_cb.trans g_ct).trans g_tn).trans g_w3).trans g_cc).trans g_pl).trans gT).trans g_rr).trans g_tm2).trans g_qq)) _ _ n_ca a_ca, (Fr.gg ((((((((g_ct.trans g_tn).trans g_w3).trans g_cc).trans g_pl).trans gT).trans g_rr).trans g_tm2).trans g_qq)) _ _ n_cb a_cb, n_ct, n_ca, n_cb⟩
    refine q HW qq _ _ ⟨code ++ [⟨"call", .str "other", [0, ra, rb], 1 + m⟩], res⟩ ⟨code2, r2⟩ ((h1.go.trans g1J).trans gJW) a_qq n_qq ⟨tm2, cc, rr, .ref pp, .ref tn, _, rfl, (Fr.gg g_qq) _ _ n_tm2 a_tm2, (hP.fr (Fr.gg g89)).fr fDW, ⟨tn, rfl, (Fr.gg ((((((g_w3.trans g_cc).trans g_pl).trans gT).trans g_rr).trans g_tm2).trans g_qq)) _ _ n_tn a_tn, n_tn⟩, (Fr.gg ((((g_pl.trans gT).trans g_rr).trans g_tm2).trans g_qq)) _ _ n_cc a_cc, ((hi1.weak (fun z h => pair2 z h)).fr fDW).snoc call, (Fr.gg (g_tm2.trans g_qq)) _ _ n_rr a_rr, n_tm2, n_cc, n_rr⟩ (hOther.fr fDW) (.inr ⟨code, ra, rb, by rw [em], hE.ok, l36, hE.sf ra hra, hE.sf rb hrb, ?_⟩) okO
    rcases hres with rfl | rfl
    · exact .inl em
    · exact .inr (hE.sf _ hr2)
  · refine ⟨_, rfl, _, rfl, (by show 2 ≤ sizeLine; decide), fun qq nqq => ?_⟩
    obtain ⟨HK, e_qq, g_qq, a_qq, n_qq⟩ := newAt S_HJ nqq (o := .lst [.ref tm, .ref to])
    rw [← e_qq]
    have S_HK := g_qq.2
    exact q HK qq _ _ ⟨code, r⟩ ⟨code2, r2⟩ ((h1.go.trans g1J).trans g_qq) a_qq n_qq ((hMain.fr (Fr.gg gDJ)).fr (Fr.gg g_qq)) (hOJ.fr (Fr.gg g_qq)) (.inl okM) okO
end
end K11

namespace K11
open PySem PySem.Spec PyProof.Rows L2
abbrev s_Store___init__ : Stmt := inClass (top 46) 0
theorem sc_Store___init__ : FnScope ["self", "slots"] ["self", "slots"] (defScope s_Store___init__) := ⟨rfl, rfl, rfl, by decide +kernel, rfl, by decide +kernel, by decide +kernel⟩
abbrev s_Store_place : Stmt := inClass (top 46) 1
theorem sc_Store_place : FnScope ["self", "number"] ["self", "number"] (defScope s_Store_place) := ⟨rfl, rfl, rfl, by decide +kernel, rfl, by decide +kernel, by decide +kernel⟩
abbrev s_Store_read : Stmt := inClass (top 46) 2
theorem sc_Store_read : FnScope ["self", "registers", "number"] ["self", "registers"] (defScope s_Store_read) := ⟨rfl, rfl, rfl, by decide +kernel, rfl, by decide +kernel, by decide +kernel⟩
abbrev s_Store_write : Stmt := inClass (top 46) 3
theorem sc_Store_write : FnScope ["self", "registers", "vectors", "number", "vector"] ["self", "registers", "vectors"] (defScope s_Store_write) := ⟨rfl, rfl, rfl, by decide +kernel, rfl, by decide +kernel, by decide +kernel⟩
abbrev s_Machine___init__ : Stmt := inClass (top 47) 0
theorem sc_Machine___init__ : FnScope ["self", "blocks", "plans", "block"] ["self", "blocks", "plans"] (defScope s_Machine___init__) := ⟨rfl, rfl, rfl, by decide +kernel, rfl, by decide +kernel, by decide +kernel⟩
abbrev s_Machine_results_for : Stmt := inClass (top 47) 1
theorem sc_Machine_results_for : FnScope ["self", "name", "values", "_", "given", "result", "lanes"] ["self", "name", "values"] (defScope s_Machine_results_for) := ⟨rfl, rfl, rfl, by decide +kernel, rfl, by decide +kernel, by decide +kernel⟩
abbrev s_Machine_run_block : Stmt := inClass (top 47) 2
theorem sc_Machine_run_block : FnScope ["self", "name", "vectors", "_", "code", "results", "store", "instruction"] ["self", "name", "vectors"] (defScope s_Machine_run_block) := ⟨rfl, rfl, rfl, by decide +kernel, rfl, by decide +kernel, by decide +kernel⟩
abbrev s_Machine_run_instruction : Stmt := inClass (top 47) 3
theorem sc_Machine_run_instruction : FnScope ["self", "instruction", "store", "name", "extra", "inputs", "outputs", "vectors", "found", "vector"] ["self", "instruction", "store"] (defScope s_Machine_run_instruction) := ⟨rfl, rfl, rfl, by decide +kernel, rfl, by decide +kernel, by decide +kernel⟩
abbrev s_Machine_run_call : Stmt := inClass (top 47) 4
theorem sc_Machine_run_call : FnScope ["self", "name", "vectors", "many", "_"] ["self", "name", "vectors", "many"] (defScope s_Machine_run_call) := ⟨rfl, rfl, rfl, by decide +kernel, rfl, by decide +kernel, by decide +kernel⟩
/-! ### the store of registers -/
structure MAt (K : PySem.W.Frag) (C : Addr) (m q : Str) (st : Stmt) (ps : List Str) (f : Addr × FuncData) : Prop where
  F : Fun K m q st f.1 f.2
  m : Meth K C m f.1
  b : Binds K f.2 ps []
structure SAd where
  C : Addr
  init : Addr × FuncData
  place : Addr × FuncData
  read : Addr × FuncData
  write : Addr × FuncData
structure STxt (w : World) (K : PySem.W.Frag) (mg : Str → Option Value) (b : Ad) (a : SAd) : Prop where
  T : Txt w K mg b
  cl : Cls K a.C
  nS : NoAttr K a.C "slots"
  nV : NoAttr K a.C "vectors"
  gC : mg "Store" = some (.ref a.C)
  mkk : Mk K a.C a.init.1
  iF : Fun K "__init__" "Store.__init__" s_Store___init__ a.init.1 a.init.2
  ib : Binds K a.init.2 ["self", "slots"] []
  place : MAt K a.C "place" "Store.place" s_Store_place ["self", "number"] a.place
  read : MAt K a.C "read" "Store.read" s_Store_read ["self", "registers"] a.read
  write : MAt K a.C "write" "Store.write" s_Store_write ["self", "registers", "vectors"] a.write
theorem VecsAt.upd {K : PySem.W.Frag} {H : Hp} {q : Addr} {o : HO} : ∀ {as : List Addr} {xss : List (List Int)}, VecsAt K H as xss → q ∉ as → VecsAt K (upd H q o) as xss
  | [], [], _, _ => trivial
  | b :: r, _ :: _, ⟨x, y⟩, n => ⟨by rw [upd_ne (fun z => n (by rw [z]; exact List.mem_cons_self ..))]; exact x, y.upd fun z => n (List.mem_cons_of_mem _ z)⟩
  | [], _ :: _, h, _ => h.elim
  | _ :: _, [], h, _ => h.elim
theorem VecsAt.snoc {K : PySem.W.Frag} {H : Hp} {d : Addr} {x : List Int} (hd : H d = some (.lst (iv x))) : ∀ {as : List Addr} {xss : List (List Int)}, VecsAt K H as xss → VecsAt K H (as ++ [d]) (xss ++ [x])
  | [], [], _ => ⟨hd, trivial⟩
  | b :: r, _ :: _, ⟨x, y⟩ => ⟨x, y.snoc hd⟩
  | [], _ :: _, h => h.elim
  | _ :: _, [], h => h.elim
theorem VecsAt.get {K : PySem.W.Frag} {H : Hp} {x : List Int} : ∀ {as : List Addr} {xss : List (List Int)} {i : Nat}, VecsAt K H as xss → xss[i]? = some x → ∃ b, as[i]? = some b ∧ H b = some (.lst (iv x))
  | b :: _, y :: _, 0, ⟨h, _⟩, e => ⟨b, rfl, by obtain rfl : y = x := Option.some.inj e; exact h⟩
  | _ :: _, _ :: _, i + 1, ⟨_, h⟩, e => h.get (i := i) e
  | _, [], i, _, e => by simp at e
  | [], _ :: _, _, h, _ => h.elim
theorem VecsAt.len {K : PySem.W.Frag} {H : Hp} : ∀ {as : List Addr} {xss : List (List Int)}, VecsAt K H as xss → as.length = xss.length
  | [], [], _ => rfl
  | _ :: _, _ :: _, ⟨_, h⟩ => congrArg (· + 1) h.len
  | [], _ :: _, h => h.elim
  | _ :: _, [], h => h.elim
theorem pe_fldK {X : Cx} {K : PySem.W.Frag} (hK : X.K = K) {e : Expr} {f : Str} {pos : Pos} {ta : TE} (he : PE X e ta) (hb : attributeBase e f X.env (eval e X.env) = eval e X.env) : PE X (.Attribute e f pos) (tFld K ta f) := hK ▸ pe_fld he hb
/-- the registers: their dict d -/
def RegAt (K : PySem.W.Frag) (H : Hp) (d : Addr) (R : List (List Int)) : Prop := ∃ kvs : List (L2.Key × V), H d = some (.dK kvs) ∧ kvs.length ≤ R.length ∧ ∀ (k : Nat) (x : List Int), R[k]? = some x → ∃ b, valV kvs (.inl (k : Int)) = some (.ref b) ∧ H b = some (.lst (iv x))
def StoreAt (K : PySem.W.Frag) (C : Addr) (H : Hp) (s d : Addr) (R : List (List Int)) : Prop := (∃ dx, H s = some (.ins C dx [("slots", .non), ("vectors", .ref d)])) ∧ RegAt K H d R
theorem RegAt.fr {K : PySem.W.Frag} {H H' : Hp} {d : Addr} {R : List (List Int)} (h : RegAt K H d R) (s : ∀ b o, (∀ C dx fs, o ≠ .ins C dx fs) → H b = some o → H' b = some o) : RegAt K H' d R := by
  obtain ⟨kvs, h1, h2, h3⟩ := h
  refine ⟨kvs, s _ _ (fun _ _ _ => nofun) h1, h2, fun k x e => ?_⟩
  obtain ⟨b, e1, e2⟩ := h3 k x e
  exact ⟨b, e1, s _ _ (fun _ _ _ => nofun) e2⟩
theorem RegAt.same {K : PySem.W.Frag} {H H' : Hp} {d : Addr} {R : List (List Int)} (h : RegAt K H d R) (s : Same H H') : RegAt K H' d R := h.fr fun b o _ e => s b o e
theorem StoreAt.same {K : PySem.W.Frag} {C : Addr} {H H' : Hp} {s d : Addr} {R : List (List Int)} (h : StoreAt K C H s d R) (sm : Same H H') : StoreAt K C H' s d R := by
  obtain ⟨⟨dx, h1⟩, h2⟩ := h
  exact ⟨⟨dx, sm _ _ h1⟩, h2.same sm⟩
def regs (R : List (List Int)) (rs : List Int) : List (List Int) := rs.map fun r => R.getD r.toNat []
section
variable {P : Program} {w : World} {K : PySem.W.Frag} {mg : Str → Option Value} {base : Heap} {b : Ad} {a : SAd}
def spSInit (K : PySem.W.Frag) (C : Addr) : Sp := fun vs H Q _ => ∃ s dx : Addr, vs = [.ref s, .non] ∧ H s = some (.ins C dx []) ∧ ∀ (H' : Hp) (d : Addr), (∀ z o, z ≠ s → H z = some o → H' z = some o) → H d = none → StoreAt K C H' s d [] → Q .non H'
theorem ok_sinit (S : STxt w K mg b a) : FnOk P w K mg base CX0 1 a.init.1 a.init.2 ["self", "slots"] (spSInit K a.C) := by
  refine S.iF.ok sc_Store___init__ (fun vs H Q E h => ?_) (fun cdv A outer s H vs Q E hr h => ?_)
  · obtain ⟨_, _, rfl, _⟩ := h
    rfl
  obtain ⟨so, dx, rfl, hob, q⟩ := h
  have nd := sc_Store___init__.nd
  refine ⟨_, (pss_cons (ps_fld (pv 0) (pv 1) rfl)
  (pss_one (ps_fld (pv 0) pe_dnewK rfl))), ?_⟩
  refine ⟨_, rfl, _, rfl, so, a.C, dx, _, rfl, hob, S.cl, S.nS, (by show 0 < 1000; decide), ?_⟩
  intro d hd
  have nds : d ≠ so := fun z => by rw [z, upd_same] at hd; cases hd
  have hd0 : H d = none := by rw [upd_ne nds] at hd; exact hd
  refine ⟨_, rfl, so, a.C, dx, _, rfl, (by rw [upd_ne nds.symm, upd_same]), S.cl, S.nV, (by show 1 < 1000; decide), ?_⟩
  refine q _ d (fun z o nz ez => ?_) hd0 ⟨⟨dx, upd_same⟩, [], ?_, Nat.le_refl _, fun k x e => by simp at e⟩
  · rw [upd_ne nz, upd_ne (ne_of_none ez hd0), upd_ne nz]; exact ez
  · rw [upd_ne nds, upd_same]
def spPlace (C : Addr) : Sp := fun vs H Q _ => ∃ (s d dx : Addr) (k : Int), vs = [.ref s, .int k] ∧ H s = some (.ins C dx [("slots", .non), ("vectors", .ref d)]) ∧ Q (.int k) H
theorem ok_place_ (S : STxt w K mg b a) : FnOk P w K mg base CX0 1 a.place.1 a.place.2 ["self", "number"] (spPlace a.C) := by
  refine S.place.F.ok sc_Store_place (fun vs H Q E h => ?_) (fun cdv A outer s H vs Q E hr h => ?_)
  · obtain ⟨_, _, _, _, rfl, _⟩ := h
    rfl
  obtain ⟨so, d, dx, k, rfl, hob, q⟩ := h
  have nd := sc_Store_place.nd
  refine ⟨_, (pss_one (ps_ret (pe_ifExp (pt_cmpR op_isN (pe_fld (pv 0) rfl) pe_non (nomark _)) (pv 1) (pe_ix ix_list (pe_fld (pv 0) rfl) (pv 1) (fun _ _ => rfl))))), ?_⟩
  refine ⟨_, rfl, so, a.C, dx, _, _, rfl, hob, S.cl, S.nS, rfl, ?_⟩
  exact ⟨rfl, _, rfl, ifT (by decide) ⟨_, rfl, q⟩⟩
def spRead (K : PySem.W.Frag) (C : Addr) : Sp := fun vs H Q _ => ∃ (s d p : Addr) (rs : List Int) (R : List (List Int)), vs = [.ref s, .ref p] ∧ SqL K H p (iv rs) ∧ StoreAt K C H s d R ∧ (∀ r ∈ rs, 0 ≤ r ∧ r < R.length) ∧ rs.length ≤ 100 ∧
  ∀ (H' : Hp) (q : Addr) (as : List Addr), Same H H' → H q = none → H' q = some (.lst (as.map V.ref)) → VecsAt K H' as (regs R rs) → Q (.ref q) H'
theorem ok_read (S : STxt w K mg b a) : FnOk P w K mg base CX0 2 a.read.1 a.read.2 ["self", "registers"] (spRead K a.C) := by
  refine S.read.F.ok sc_Store_read (fun vs H Q E h => ?_) (fun cdv A outer s H vs Q E hr h => ?_)
  · obtain ⟨_, _, _, _, _, rfl, _⟩ := h
    rfl
  obtain ⟨so, d, p, rs, R, rfl, hp, ⟨⟨dx, hob⟩, kvs, hd, _, hreg⟩, hrs, hl, q⟩ := h
  have nd := sc_Store_read.nd
  have hu := hu_of hr
  have G_place := ok_place_ (P := P) (base := base) S
  refine ⟨_, (pss_one (ps_ret (pe_lc (own := [("number", 2)]) (g := gName 2) (tt := tYes) rfl nd (pi_list (pv 1)) (blkOk_by (N := ["self", "registers", "number"]) (sc := defScope s_Store_read) (by decide +kernel)) (fun _ _ _ _ _ => (pg_name (i := 2) nd rfl (Or.inl rfl))) (fun _ _ _ _ _ => pts_nil) (fun _ _ _ _ _ => (pe_dget hu (pe_fldK (K := K) rfl (pv 0) rfl) (pe_meth (pv 0) S.cl S.place.m G_place (hr.mono (by omega)) S.place.b .nil pass0 (pa_cons (pv 2) pa_nil)) (fun _ _ => rfl)))))), ?_⟩
  refine ⟨_, rfl, p, rfl, ⟨_, hp⟩, fun D nD => lc_it (walk_list (K := K) (a := p) (xs := iv rs)) (fun i H1 => ∃ as : List Addr, Same H H1 ∧ H1 D = some (.lst (as.map V.ref)) ∧ VecsAt K H1 as (regs R (rs.take i)) ∧ as.length = i ∧ D ∉ as) ⟨[], same_new nD _, upd_same, by rw [List.take_zero]; exact trivial, rfl, List.not_mem_nil⟩ (fun i H1 _ h => by obtain ⟨_, s, _⟩ := h; exact s.seq hp) ?_ ?_⟩
  · rintro i x H1 H2 hi ⟨as, sm, hD, hv, al, nDa⟩ ⟨rfl, hx⟩
    obtain ⟨r, hr', rfl⟩ := iv_get hx
    rw [iv_len] at hi
    obtain ⟨r0, r1⟩ := hrs r (List.mem_of_getElem? hr')
    obtain ⟨k, rfl⟩ := Int.eq_ofNat_of_zero_le r0
    have hk : R[k]? = some (R.getD k []) := by rw [List.getD_eq_getElem?_getD, List.getElem?_eq_getElem (by omega)]; rfl
    obtain ⟨bb, e1, e2⟩ := hreg k _ hk
    have nb : bb ≠ D := ne_of_none e2 nD
    refine ⟨rfl, _, rfl, so, a.C, dx, _, _, rfl, sm _ _ hob, S.cl, S.nV, rfl, _, rfl, so, dx, _, rfl, sm _ _ hob, rfl, _, rfl, so, d, dx, _, rfl, sm _ _ hob, ?_⟩
    refine ⟨d, .ref bb, rfl, ?_, as.map V.ref, hD, by rw [List.length_map, al]; exact small1000 (by omega), as ++ [bb], fun z o ez => ?_, ?_, ?_, by simp [al], ?_⟩
    · rw [← e1]; exact DGet.k (k := Sum.inl (k : Int)) (sm _ _ hd)
    · rw [upd_ne (ne_of_none ez nD)]; exact sm _ _ ez
    · rw [upd_same, List.map_append]; rfl
    · have : regs R (rs.take (i + 1)) = regs R (rs.take i) ++ [R.getD k []] := by
        unfold regs
        rw [List.take_add_one, hr']
        simp
      rw [this]
      refine VecsAt.upd (VecsAt.snoc (sm _ _ e2) hv) fun m => ?_
      rcases List.mem_append.mp m with m | m
      · exact nDa m
      · exact nb (List.mem_singleton.mp m).symm
    · intro m
      rcases List.mem_append.mp m with m | m
      · exact nDa m
      · exact nb (List.mem_singleton.mp m).symm
  · rintro H1 ⟨as, sm, hD, hv, al, nDa⟩
    rw [iv_len, List.take_length] at hv
    exact q H1 D as sm nD hD hv
def spWrite (K : PySem.W.Frag) (C : Addr) : Sp := fun vs H Q _ => ∃ (s d p v : Addr) (as : List Addr) (R xss : List (List Int)), vs = [.ref s, .ref p, .ref v] ∧ H p = some (.lst (iv ((List.range xss.length).map fun (k : Nat) => (R.length : Int) + (k : Int)))) ∧ H v = some (.lst (as.map V.ref)) ∧ VecsAt K H as xss ∧ xss.length ≤ 100 ∧ R.length ≤ 800 ∧ StoreAt K C H s d R ∧
  ∀ H', Fr [d] H H' → StoreAt K C H' s d (R ++ xss) → Q .non H'
theorem put_len {kvs : List (L2.Key × V)} {k : L2.Key} {v : V} : (putK kvs k v).length ≤ kvs.length + 1 := by
  unfold putK
  split <;> simp
theorem ok_write (S : STxt w K mg b a) : FnOk P w K mg base CX0 2 a.write.1 a.write.2 ["self", "registers", "vectors"] (spWrite K a.C) := by
  refine S.write.F.ok sc_Store_write (fun vs H Q E h => ?_) (fun cdv A outer s H vs Q E hr h => ?_)
  · obtain ⟨_, _, _, _, _, _, _, rfl, _⟩ := h
    rfl
  obtain ⟨so, d, p, v, as, R, xss, rfl, hp, hv, hvec, hx, hR, hst, q⟩ := h
  have nd := sc_Store_write.nd
  have hu := hu_of hr
  have G_place := ok_place_ (P := P) (base := base) S
  have hdd : ∃ kvs, H d = some (.dK kvs) := by obtain ⟨_, kvs, h, _⟩ := hst; exact ⟨kvs, h⟩
  obtain ⟨kvs0, hd0⟩ := hdd
  have nf : ∀ {z : Addr} {o : HO}, H z = some o → (∀ kvs, o ≠ .dK kvs) → z ∉ [d] := fun {z o} e n m => by
    rw [List.mem_singleton.mp m, hd0] at e
    exact n kvs0 (Option.some.inj e).symm
  have np := nf hp nofun
  have nv := nf hv nofun
  have al := hvec.len
  refine ⟨_, (pss_one (ps_for PassesOwn.never rfl (pi_zip (by rfl) S.T.zip (pa_cons (pv 1) (pa_cons (pv 2) pa_nil))) (pg_tup rfl (pgs_cons (pg_name (i := 3) nd rfl (Or.inl rfl)) (pgs_cons (pg_name (i := 4) nd rfl (Or.inl rfl)) pgs_nil))) (pss_one (ps_dput hu (pe_fld (pv 0) rfl) (pe_meth (pv 0) S.cl S.place.m G_place (hr.mono (by omega)) S.place.b .nil pass0 (pa_cons (pv 3) pa_nil)) (pv 4) rfl)))), ?_⟩
  refine ⟨_, rfl, _, rfl, p, v, _, _, rfl, SqL.of hp, SqL.of hv, for_it (walk_zip (K := K) (a := p) (b := v) (xs := iv ((List.range xss.length).map fun (k : Nat) => (R.length : Int) + (k : Int))) (ys := as.map V.ref) (n := xss.length) (by rw [iv_len, List.length_map, List.length_map, List.length_range, al, Nat.min_self])) (fun i σ H1 => ∃ v3 v4 : Option V, σ = [some (.ref so), some (.ref p), some (.ref v), v3, v4] ∧ Fr [d] H H1 ∧ StoreAt K a.C H1 so d (R ++ xss.take i)) ⟨none, none, rfl, fun _ _ _ e => e, by rw [List.take_zero, List.append_nil]; exact hst⟩ (fun i σ H1 _ h => by obtain ⟨_, _, _, f, _⟩ := h; exact ⟨SqL.of (f _ _ np hp), SqL.of (f _ _ nv hv)⟩) ?_ ?_⟩
  · rintro i x σ H1 H2 hi ⟨v3, v4, rfl, f, st1⟩ ⟨t, x1, x2, rfl, nt, rfl, e1, e2⟩
    obtain ⟨k1, f1, rfl⟩ := iv_get e1
    have ek : k1 = (R.length : Int) + (i : Int) := by
      rw [List.getElem?_map, List.getElem?_range hi] at f1
      exact (Option.some.inj f1).symm
    obtain ⟨xi, exi⟩ : ∃ xi, xss[i]? = some xi := ⟨_, List.getElem?_eq_getElem hi⟩
    obtain ⟨bb, eb, hb⟩ := hvec.get exi
    have e2' : (as.map V.ref)[i]? = some x2 := e2
    rw [List.getElem?_map, eb] at e2'
    obtain rfl : V.ref bb = x2 := Option.some.inj e2'
    have s2 := same_new nt (.tup [.int k1, .ref bb])
    have st2 := st1.same s2
    obtain ⟨⟨dx, hob⟩, kvs, hd, kl, hreg⟩ := st2
    have lR : (R ++ xss.take i).length = R.length + i := by rw [List.length_append, List.length_take]; omega
    have nb : bb ≠ d := fun z => by
      have := hb; rw [z, hd0] at this; cases this
    have nso : so ≠ d := fun z => by rw [z, hd] at hob; cases hob
    have ntd : t ≠ d := fun z => by
      obtain ⟨_, kk, h1, _⟩ := st1
      rw [z, h1] at nt; cases nt
    refine ⟨t, _, rfl, .inl (.inl upd_same), rfl, _, _, rfl, _, _, rfl, rfl, ?_⟩
    refine ⟨_, rfl, _, rfl, so, a.C, dx, _, _, rfl, hob, S.cl, S.nV, rfl, _, rfl, so, dx, _, rfl, hob, rfl, _, rfl, so, d, dx, _, rfl, hob, ?_⟩
    refine ⟨d, _, rfl, DPut.k (k := Sum.inl k1) hd (Nat.lt_of_le_of_lt kl (by rw [lR]; exact small1000 (by omega))), some (.int k1), some (.ref bb), rfl, fun z o nz ez => ?_, ⟨dx, by rw [upd_ne nso]; exact hob⟩, putK kvs (.inl k1) (.ref bb), upd_same, ?_, fun k y e => ?_⟩
    · rw [upd_ne (fun e => nz (List.mem_singleton.mpr e))]; exact s2 _ _ (f _ _ nz ez)
    · have := put_len (kvs := kvs) (k := .inl k1) (v := .ref bb)
      rw [lR] at kl
      rw [List.length_append, List.length_take]
      omega
    · have hbb : (upd (upd H1 t (.tup [.int k1, .ref bb])) d (.dK (putK kvs (.inl k1) (.ref bb)))) bb = some (.lst (iv xi)) := by
        rw [upd_ne nb]; exact s2 _ _ (f _ _ (fun m => nb (List.mem_singleton.mp m)) hb)
      rw [List.take_add_one, exi, ← List.append_assoc] at e
      by_cases c : k < (R ++ xss.take i).length
      · rw [List.getElem?_append_left c] at e
        obtain ⟨b2, g1, g2⟩ := hreg k y e
        have nb2 : b2 ≠ d := fun z => by rw [z, hd] at g2; cases g2
        refine ⟨b2, ?_, by rw [upd_ne nb2]; exact g2⟩
        rw [valV_put, if_neg]
        · exact g1
        · intro z
          have := Sum.inl.inj z
          omega
      · have lt := (List.getElem?_eq_some_iff.mp e).1
        have kk : k = R.length + i := by rw [List.length_append] at lt; simp at lt; omega
        rw [List.getElem?_append_right (by omega)] at e
        have : k - (R ++ xss.take i).length = 0 := by omega
        rw [this] at e
        obtain rfl : xi = y := Option.some.inj e
        refine ⟨bb, ?_, hbb⟩
        rw [valV_put, if_pos]
        rw [ek, kk]
        simp
  · rintro σ H1 ⟨v3, v4, rfl, f, st1⟩
    rw [List.take_length] at st1
    exact q H1 f st1
end
end K11

namespace K11
open PySem PySem.Spec PyProof.Rows L2
/-! ### the machine -/
theorem VecsAt.geta {K : PySem.W.Frag} {H : Hp} {z : Addr} : ∀ {as : List Addr} {xss : List (List Int)} {i : Nat}, VecsAt K H as xss → as[i]? = some z → ∃ x, xss[i]? = some x ∧ H z = some (.lst (iv x))
  | b :: _, y :: _, 0, ⟨h, _⟩, e => ⟨y, rfl, by obtain rfl : b = z := Option.some.inj e; exact h⟩
  | _ :: _, _ :: _, i + 1, ⟨_, h⟩, e => h.geta (i := i) e
  | [], _, i, _, e => by simp at e
  | _ :: _, [], _, h, _ => h.elim
theorem VecsAt.last {K : PySem.W.Frag} {H : Hp} {z : Addr} {x : List Int} : ∀ {as : List Addr} {xss : List (List Int)}, VecsAt K H (as ++ [z]) (xss ++ [x]) → H z = some (.lst (iv x))
  | [], [], h => h.1
  | _ :: as, _ :: xss, h => VecsAt.last (as := as) (xss := xss) h.2
  | [], [_], h => h.2.elim
  | [], _ :: _ :: _, h => h.2.elim
  | [_], [], h => h.2.elim
  | _ :: _ :: _, [], h => h.2.elim
structure KAd where
  C : Addr
  init : Addr × FuncData
  results_for : Addr × FuncData
  run_block : Addr × FuncData
  run_instruction : Addr × FuncData
  run_call : Addr × FuncData
structure MTxt (w : World) (K : PySem.W.Frag) (mg : Str → Option Value) (b : Ad) (sa : SAd) (a : KAd) : Prop where
  S : STxt w K mg b sa
  cl : Cls K a.C
  n_blocks : NoAttr K a.C "blocks"
  n_plans : NoAttr K a.C "plans"
  n_steps : NoAttr K a.C "steps"
  n_touches : NoAttr K a.C "touches"
  n_depth : NoAttr K a.C "depth"
  gC : mg "Machine" = some (.ref a.C)
  mkk : Mk K a.C a.init.1
  iF : Fun K "__init__" "Machine.__init__" s_Machine___init__ a.init.1 a.init.2
  ib : Binds K a.init.2 ["self", "blocks", "plans"] []
  lim : ∃ u, mg "BLOCK_LIMIT" = some u ∧ RelV (.int 40) u
  results_for : MAt K a.C "results_for" "Machine.results_for" s_Machine_results_for ["self", "name", "values"] a.results_for
  run_block : MAt K a.C "run_block" "Machine.run_block" s_Machine_run_block ["self", "name", "vectors"] a.run_block
  run_instruction : MAt K a.C "run_instruction" "Machine.run_instruction" s_Machine_run_instruction ["self", "instruction", "store"] a.run_instruction
  run_call : MAt K a.C "run_call" "Machine.run_call" s_Machine_run_call ["self", "name", "vectors", "many"] a.run_call
def MachAt (C : Addr) (H : Hp) (m bd pd : Addr) (s t d : Int) : Prop := ∃ dx, H m = some (.ins C dx [("blocks", .ref bd), ("plans", .ref pd), ("steps", .int s), ("touches", .int t), ("depth", .int d)])
def lens (xss : List (List Int)) : List Int := xss.map fun x => (x.length : Int)
/-- what an instruction does to the machine m and the registers d -/
def spInstr (K : PySem.W.Frag) (TE CM CS : Addr) (spc : Sp) : Sp := fun vs H Q E => ∃ (m so d bd pd : Addr) (v : V) (sN tN dN : Int) (x : In) (R : List (List Int)), vs = [.ref m, v, .ref so] ∧ MachAt CM H m bd pd sN tN dN ∧ InAt [] H x v ∧ StoreAt K CS H so d R ∧ x.out = (R.length : Int) ∧ (∀ r ∈ x.ins, 0 ≤ r ∧ r < R.length) ∧ x.ins.length ≤ 3 ∧ R.length ≤ 800 ∧
  ((x.nm ≠ "call" ∧ ∃ pr res, Ins x.nm pr res ∧ pr x.ex (regs R x.ins) ∧
      (∀ out, res x.ex (regs R x.ins) = some out → ∀ H', Fr [m, d] H H' → MachAt CM H' m bd pd (sN + 1) (tN + (lens (regs R x.ins ++ [out])).sum) dN → StoreAt K CS H' so d (R ++ [out]) → Q .non H') ∧
      (res x.ex (regs R x.ins) = none → ∀ H', Fr [m] H H' → E (.ref TE) none H')) ∨
   (x.nm = "call" ∧ ∃ s : Str, x.ex = .str s ∧ ∀ (H1 : Hp) (q : Addr) (as : List Addr), Fr [m] H H1 → MachAt CM H1 m bd pd (sN + 1) tN dN → StoreAt K CS H1 so d R → H1 q = some (.lst (as.map V.ref)) → VecsAt K H1 as (regs R x.ins) →
      ∀ Qc : VK, (∀ y H2, (∃ (f bb : Addr) (out : List Int), y = .ref f ∧ Fr [m] H1 H2 ∧ H2 f = some (.lst [.ref bb]) ∧ H2 bb = some (.lst (iv out)) ∧ ∀ H3, Fr [d] H2 H3 → StoreAt K CS H3 so d (R ++ [out]) → Q .non H3) → Qc y H2) → spc [.ref m, .str s, .ref q, .int 1] H1 Qc E))
section
variable {P : Program} {w : World} {K : PySem.W.Frag} {mg : Str → Option Value} {base : Heap} {b : Ad} {sa : SAd} {a : KAd}
theorem ok_run_instruction (M : MTxt w K mg b sa a) {spc : Sp} {l : Nat} (G_run_call : FnOk P w K mg base (L2.CX P w) l a.run_call.1 a.run_call.2 ["self", "name", "vectors", "many"] spc) : FnOk P w K mg base (L2.CX P w) (max l 4 + 1) a.run_instruction.1 a.run_instruction.2 ["self", "instruction", "store"] (spInstr K b.TrapError a.C sa.C spc) := by
  refine M.run_instruction.F.okX sc_Machine_run_instruction (fun vs H Q E h => ?_) (fun cdv A outer s H vs Q E hr h => ?_)
  · obtain ⟨_, _, _, _, _, _, _, _, _, _, _, rfl, _⟩ := h
    rfl
  obtain ⟨m, so, d, bd, pd, v, sN, tN, dN, x, R, rfl, ⟨dxm, hm⟩, ⟨t, aa, bb, rfl, ht, ha, hb, _⟩, hst, ho, hrs, hl, hR, hcase⟩ := h
  have nd := sc_Machine_run_instruction.nd
  have G_execute := ok_execute (P := P) (base := base) M.S.T
  have G_read := ok_read (P := P) (base := base) M.S
  have G_write := ok_write (P := P) (base := base) M.S
  obtain ⟨⟨dxs, hob⟩, hreg⟩ := id hst
  refine ⟨_, (pss_cons (ps_asg (pv 1) (pg_tup rfl (pgs_cons (pg_name (i := 3) nd rfl (Or.inl rfl)) (pgs_cons (pg_name (i := 4) nd rfl (Or.inl rfl)) (pgs_cons (pg_name (i := 5) nd rfl (Or.inl rfl)) (pgs_cons (pg_name (i := 6) nd rfl (Or.inl rfl)) pgs_nil))))))
  (pss_cons (ps_set (i := 7) nd rfl (Or.inl rfl) (pe_meth (pv 2) M.S.cl M.S.read.m G_read (hr.mono (by omega)) M.S.read.b .nil pass0 (pa_cons (pv 5) pa_nil)))
  (pss_cons (ps_fldaug (pv 0) pe_int ip_add)
  (pss_cons (ps_if (pt_cmpR op_eq (pv 3) pe_str (nomark _)) (pss_one (ps_set (i := 8) nd rfl (Or.inl rfl) (pe_meth (pv 0) M.cl M.run_call.m G_run_call (hr.mono (by omega)) M.run_call.b .nil (passes_call (takes_of rfl rfl rfl rfl) (fun _ _ _ _ h => h)) (pa_cons (pv 4) (pa_cons (pv 7) (pa_cons (pe_callB call_len_seq (by rfl) M.S.T.len PySem.boot_len (pa_cons (pv 6) pa_nil)) pa_nil)))))) (pss_cons (ps_set (i := 8) nd rfl (Or.inl rfl) (pe_lst (pa_cons (pe_call G_execute (hr.mono (by omega)) rfl M.S.T.execute.g M.S.T.execute.F.kp M.S.T.execute.b .nil (passes_call (takes_of rfl rfl rfl rfl) (fun _ _ _ _ h => h)) (pa_cons (pv 3) (pa_cons (pv 4) (pa_cons (pv 7) pa_nil)))) pa_nil)))
  (pss_one (ps_fldaug (pv 0) (pe_callB (cr_sum rfl) (by rfl) M.S.T.sum (by decide +kernel) (pa_cons (pe_lc (own := [("vector", 9)]) (g := gName 9) (tt := tYes) rfl nd (pi_list (pe_op op_cat (pv 7) (pv 8))) (blkOk_by (N := ["self", "instruction", "store", "name", "extra", "inputs", "outputs", "vectors", "found", "vector"]) (sc := defScope s_Machine_run_instruction) (by decide +kernel)) (fun _ _ _ _ _ => (pg_name (i := 9) nd rfl (Or.inl rfl))) (fun _ _ _ _ _ => pts_nil) (fun _ _ _ _ _ => (pe_callB (call_lenK (K := K) rfl) (by rfl) M.S.T.len PySem.boot_len (pa_cons (pv 9) pa_nil)))) pa_nil)) ip_add))))
  (pss_one (ps_expr (pe_meth (pv 2) M.S.cl M.S.write.m G_write (hr.mono (by omega)) M.S.write.b .nil pass0 (pa_cons (pv 6) (pa_cons (pv 8) pa_nil))))))))), ?_⟩
  refine ⟨_, rfl, t, _, rfl, .inl (.inl ht), rfl, _, _, rfl, _, _, rfl, _, _, rfl, _, _, rfl, rfl, ?_⟩
  refine ⟨_, rfl, so, dxs, _, rfl, hob, rfl, _, rfl, so, d, aa, x.ins, R, rfl, SqL.of ha, hst, hrs, by omega, fun H1 q as s1 nq hq hv => ?_⟩
  refine ⟨_, rfl, m, a.C, dxm, _, _, rfl, s1 _ _ hm, M.cl, M.n_steps, rfl, ?_⟩
  refine ⟨_, _, rfl, rfl, dxm, _, s1 _ _ hm, (by show 5 < 1000; decide), ?_⟩
  obtain ⟨H2, e2⟩ : ∃ H2, upd H1 m (.ins a.C dxm (putF "steps" (.int (sN + 1)) [("blocks", .ref bd), ("plans", .ref pd), ("steps", .int sN), ("touches", .int tN), ("depth", .int dN)])) = H2 := ⟨_, rfl⟩
  rw [e2]
  have hm2 : H2 m = some (.ins a.C dxm [("blocks", .ref bd), ("plans", .ref pd), ("steps", .int (sN + 1)), ("touches", .int tN), ("depth", .int dN)]) := by rw [← e2]; exact upd_same
  have f12 : Fr [m] H1 H2 := by rw [← e2]; exact Fr.put (by simp)
  have f02 : Fr [m] H H2 := fun z o n e => f12 _ _ n (s1 _ _ e)
  clear e2
  have nm_ : ∀ {z : Addr} {o : HO}, H1 z = some o → (∀ C dx fs, o ≠ .ins C dx fs) → z ∉ [m] := fun {z o} e n k => by
    rw [List.mem_singleton.mp k, s1 _ _ hm] at e
    exact n _ _ _ (Option.some.inj e).symm
  have hq2 := f12 _ _ (nm_ hq nofun) hq
  have hv2 : VecsAt K H2 as (regs R x.ins) := by
    have : ∀ {as : List Addr} {xss : List (List Int)}, VecsAt K H1 as xss → VecsAt K H2 as xss := fun {as xss} => by
      induction as generalizing xss with
      | nil => cases xss <;> exact fun h => h
      | cons z r ih =>
        cases xss with
        | nil => exact fun h => h
        | cons y ys => exact fun h => ⟨f12 _ _ (nm_ h.1 nofun) h.1, ih h.2⟩
    exact this hv
  have nso : so ∉ [m] := fun k => by
    have e := hob
    rw [List.mem_singleton.mp k, hm] at e
    have := congrArg (fun o => match o with | some (HO.ins _ _ fs) => fs.length | _ => 0) e
    simp at this
  have hst2 : StoreAt K sa.C H2 so d R := ⟨⟨dxs, f02 _ _ nso hob⟩, hreg.fr fun z o n e => f12 _ _ (nm_ (s1 _ _ e) n) (s1 _ _ e)⟩
  refine ⟨_, rfl, rfl, _, rfl, ?_⟩
  rcases hcase with ⟨hn, pr, res, hI, hpr, hok, hno⟩ | ⟨hn, sx, hex, hcall⟩
  · refine ifF (decide_eq_false fun z => hn (V.str.inj z)) ?_
    refine ⟨_, rfl, _, rfl, _, rfl, x.nm, x.ex, _, pr, res, rfl, hI, x.ex, q, as, regs R x.ins, rfl, SqL.of hq2, hv2, hpr, fun out eo H3 r s3 nr hr3 => ?_, fun eo H3 s3 => hno eo H3 fun z o n e => s3 _ _ (f02 _ _ n e)⟩
    refine ⟨(by show 1 ≤ sizeLine; decide), fun f nf => ?_⟩
    have s4 := same_new nf (.lst [V.ref r])
    have hm4 := s4 _ _ (s3 _ _ hm2)
    refine ⟨_, rfl, m, a.C, dxm, _, _, rfl, hm4, M.cl, M.n_touches, rfl, ?_⟩
    have hq4 := s4 _ _ (s3 _ _ hq2)
    have hl4 := hv2.len
    have lR : (regs R x.ins).length = x.ins.length := List.length_map _
    refine ⟨_, rfl, _, rfl, q, f, _, _, rfl, rfl, hq4, upd_same, by rw [List.length_map, hl4, lR]; show _ + 1 ≤ sizeLine; exact Nat.le_trans (show _ ≤ 1000 by omega) (by decide), fun l nl => ?_⟩
    have s5 := same_new nl (.lst (as.map V.ref ++ [V.ref r]))
    have s25 := (s3.trans s4).trans s5
    have hv5 : VecsAt K (upd (upd H3 f (.lst [V.ref r])) l (.lst (as.map V.ref ++ [V.ref r]))) (as ++ [r]) (regs R x.ins ++ [out]) := VecsAt.snoc (s5 _ _ (s4 _ _ hr3)) (hv2.same s25)
    have hl5 : (upd (upd H3 f (.lst [V.ref r])) l (.lst (as.map V.ref ++ [V.ref r]))) l = some (.lst ((as ++ [r]).map V.ref)) := by rw [upd_same, List.map_append]; rfl
    have el : as.map V.ref ++ [V.ref r] = (as ++ [r]).map V.ref := by rw [List.map_append]; rfl
    have hm5 := s5 _ _ hm4
    have hf5 := s5 _ _ (upd_same (H := H3) (a := f) (o := .lst [V.ref r]))
    generalize (upd (upd H3 f (.lst [V.ref r])) l (.lst (as.map V.ref ++ [V.ref r]))) = H5 at s25 hv5 hl5 hm5 hf5 ⊢
    refine ⟨l, rfl, ⟨_, SqL.of hl5⟩, fun D nD => lc_it (walk_list (K := K) (a := l) (xs := (as ++ [r]).map V.ref)) (fun i H6 => Same H5 H6 ∧ H6 D = some (.lst (iv ((lens (regs R x.ins ++ [out])).take i)))) ⟨same_new nD _, upd_same⟩ (fun i H6 _ h => SqL.of (h.1 _ _ hl5)) ?_ ?_⟩
    · rintro i y H6 H7 hi ⟨sm, hD⟩ ⟨rfl, hx⟩
      rw [List.getElem?_map] at hx
      cases eb : (as ++ [r])[i]? with
      | none => rw [eb] at hx; cases hx
      | some z =>
        rw [eb] at hx
        obtain rfl := (Option.some.inj hx).symm
        obtain ⟨xz, ez, hz⟩ := hv5.geta eb
        refine ⟨rfl, _, rfl, z, _, rfl, .inl (SqL.of (sm _ _ hz)), tick sm nD hD (fun _ _ e => e) ?_ ?_⟩
        · rw [List.take_add_one]
          unfold lens
          rw [List.getElem?_map, ez]
          simp [iv]
        · rw [iv_len, List.length_take]; unfold lens; rw [List.length_map, List.length_append, lR]; simp; unfold NN; omega
    rintro H6 ⟨s6, hD⟩
    have e6 : (lens (regs R x.ins ++ [out])).take (((as ++ [r]).map V.ref).length) = lens (regs R x.ins ++ [out]) := by
      refine List.take_of_length_le ?_
      unfold lens
      simp [hl4]
    rw [e6] at hD
    have hm6 := s6 _ _ hm5
    refine ⟨D, lens (regs R x.ins ++ [out]), rfl, SqL.of hD, _, _, rfl, rfl, dxm, _, hm6, (by show 5 < 1000; decide), ?_⟩
    obtain ⟨H7, e7⟩ : ∃ H7, upd H6 m (.ins a.C dxm (putF "touches" (.int (tN + (lens (regs R x.ins ++ [out])).sum)) [("blocks", .ref bd), ("plans", .ref pd), ("steps", .int (sN + 1)), ("touches", .int tN), ("depth", .int dN)])) = H7 := ⟨_, rfl⟩
    rw [e7]
    have hm7 : H7 m = some (.ins a.C dxm [("blocks", .ref bd), ("plans", .ref pd), ("steps", .int (sN + 1)), ("touches", .int (tN + (lens (regs R x.ins ++ [out])).sum)), ("depth", .int dN)]) := by rw [← e7]; exact upd_same
    have f67 : Fr [m] H6 H7 := by rw [← e7]; exact Fr.put (by simp)
    clear e7
    have s26 := s25.trans s6
    have f27 : Fr [m] H2 H7 := fun z o n e => f67 _ _ n (s26 _ _ e)
    have f07 : Fr [m] H H7 := fun z o n e => f27 _ _ n (f02 _ _ n e)
    have n6 : ∀ {z : Addr} {o : HO}, H6 z = some o → (∀ C dx fs, o ≠ .ins C dx fs) → z ∉ [m] := fun {z o} e n k => by
      rw [List.mem_singleton.mp k, hm6] at e
      exact n _ _ _ (Option.some.inj e).symm
    have hst7 : StoreAt K sa.C H7 so d R := ⟨⟨dxs, f07 _ _ nso hob⟩, (hst2.2.same s26).fr fun z o n e => f67 _ _ (n6 e n) e⟩
    have hb7 : H7 bb = some (.lst [.int x.out]) := f07 _ _ (nm_ (s1 _ _ hb) nofun) hb
    have hf7 := f67 _ _ (n6 (s6 _ _ hf5) nofun) (s6 _ _ hf5)
    have hr7 := f67 _ _ (n6 (s6 _ _ hv5.last) nofun) (s6 _ _ hv5.last)
    have hob7 := f07 _ _ nso hob
    refine ⟨_, rfl, so, dxs, _, rfl, hob7, rfl, _, rfl, _, rfl, so, d, bb, f, [r], R, [out], rfl, ?_, hf7, ⟨hr7, trivial⟩, by simp, hR, hst7, fun H' fr st' => ?_⟩
    · rw [hb7]; simp [iv, ho]
    · have nmd : m ∉ [d] := fun k => by
        obtain ⟨kvs, hd, _⟩ := hst7.2
        rw [← List.mem_singleton.mp k, hm7] at hd
        cases hd
      refine hok out eo H' (fun z o n e => ?_) ⟨dxm, fr _ _ nmd hm7⟩ st'
      simp only [List.mem_cons, List.not_mem_nil, or_false, not_or] at n
      exact fr _ _ (by simp [n.2]) (f07 _ _ (by simp [n.1]) e)
  · refine ifT (decide_eq_true (congrArg V.str hn)) ?_
    have n2 : ∀ {z : Addr} {o : HO}, H2 z = some o → (∀ C dx fs, o ≠ .ins C dx fs) → z ∉ [m] := fun {z o} e n k => by
      rw [List.mem_singleton.mp k, hm2] at e
      exact n _ _ _ (Option.some.inj e).symm
    have hb2 : H2 bb = some (.lst [.int x.out]) := f02 _ _ (nm_ (s1 _ _ hb) nofun) hb
    refine ⟨_, rfl, m, dxm, _, rfl, hm2, rfl, _, rfl, _, rfl, _, rfl, bb, _, rfl, .inl (SqL.of hb2), ?_⟩
    rw [hex]
    refine hcall H2 q as f02 ⟨dxm, hm2⟩ hst2 hq2 hv2 _ fun y H3 hy => ?_
    obtain ⟨f, b2, out, rfl, f23, hf, hbo, fin⟩ := hy
    have hst3 : StoreAt K sa.C H3 so d R := ⟨⟨dxs, f23 _ _ nso (f02 _ _ nso hob)⟩, hst2.2.fr fun z o n e => f23 _ _ (n2 e n) e⟩
    refine ⟨_, rfl, so, dxs, _, rfl, f23 _ _ nso (f02 _ _ nso hob), rfl, _, rfl, _, rfl, so, d, bb, f, [b2], R, [out], rfl, ?_, hf, ⟨hbo, trivial⟩, by simp, hR, hst3, fun H' fr st' => fin H' fr st'⟩
    rw [f23 _ _ (n2 hb2 nofun) hb2]
    simp [iv, ho]
end
end K11

namespace K11
open PySem PySem.Spec PyProof.Rows L2
/-! ### what a block computes -/
def fI (x : In) (vs : List (List Int)) : Option (List Int) :=
  if x.nm = "fill" then re_fill x.ex vs
  else if x.nm = "calc" then re_calc_ x.ex vs
  else if x.nm = "flags" then re_flags x.ex vs
  else if x.nm = "range" then re_need_range x.ex vs
  else if x.nm = "same" then re_need_same x.ex vs
  else re_join_ x.ex vs
/-- few numbers of the range -/
structure Ve (n : Nat) (v : List Int) : Prop where
  ln : v.length = n
  ir : ∀ y ∈ v, InR y
theorem ite_some {c : Prop} [Decidable c] {x out : List Int} (e : (if c then some x else none) = some out) : out = x := by
  split at e
  · exact (Option.some.inj e).symm
  · cases e
theorem at_all {P : Int → Prop} {ls : List Int} (h : ∀ n ∈ ls, P n) {i : Nat} (hi : i < ls.length) : P (at_ ls i) := h _ (List.mem_of_getElem? (at_get hi))
theorem exec_ok {n : Nat} {x : In} {R : List (List Int)} (hk : InKind x) (hn : n ≤ 100) (hv : ∀ r ∈ x.ins, Ve n (R.getD r.toNat [])) :
    x.nm ≠ "call" ∧ ∃ pr res, Ins x.nm pr res ∧ pr x.ex (regs R x.ins) ∧ res x.ex (regs R x.ins) = fI x (regs R x.ins) ∧ ∀ out, fI x (regs R x.ins) = some out → (∀ y ∈ out, InR y) ∧ out.length ≤ 2 * n ∧ (x.nm ≠ "join" → out.length = n) := by
  cases hk with
  | fill m r o h =>
    have v1 := hv r (List.mem_cons_self ..)
    refine ⟨by show ("fill" : Str) ≠ "call"; decide +kernel, pr_fill, re_fill, .fill, ⟨m, _, rfl, rfl, by rw [v1.ln]; unfold NN; omega⟩, rfl, fun out e => ?_⟩
    obtain rfl : (R.getD r.toNat []).map (fun _ => m) = out := Option.some.inj e
    refine ⟨fun y hy => ?_, by rw [List.length_map, v1.ln]; omega, fun _ => by rw [List.length_map, v1.ln]⟩
    obtain ⟨_, _, rfl⟩ := List.mem_map.mp hy
    unfold InR; omega
  | calc1 k s r q o h h5 h6 =>
    have v1 := hv r (List.mem_cons_self ..)
    have v2 := hv q (List.mem_cons_of_mem _ (List.mem_cons_self ..))
    refine ⟨by show ("calc" : Str) ≠ "call"; decide +kernel, pr_calc_, re_calc_, .calc_, ⟨k, s, _, _, rfl, h, rfl, by rw [v1.ln, v2.ln], by rw [v1.ln]; unfold NN; omega, v1.ir, v2.ir⟩, rfl, fun out e => ?_⟩
    have e' := ite_some e
    subst e'
    refine ⟨fun y hy => ?_, by rw [List.length_map, List.length_range]; show (R.getD r.toNat []).length ≤ _; rw [v1.ln]; omega, fun _ => by rw [List.length_map, List.length_range]; exact v1.ln⟩
    obtain ⟨i, _, rfl⟩ := List.mem_map.mp hy
    exact wrap_in _
  | flags r o =>
    have v1 := hv r (List.mem_cons_self ..)
    refine ⟨by show ("flags" : Str) ≠ "call"; decide +kernel, pr_flags, re_flags, .flags, ⟨_, rfl, by rw [v1.ln]; unfold NN; omega⟩, rfl, fun out e => ?_⟩
    obtain rfl : (R.getD r.toNat []).map (fun x => if x = 0 then 0 else 1) = out := Option.some.inj e
    refine ⟨fun y hy => ?_, by rw [List.length_map, v1.ln]; omega, fun _ => by rw [List.length_map, v1.ln]⟩
    obtain ⟨z, _, rfl⟩ := List.mem_map.mp hy
    unfold InR; split <;> omega
  | range r o =>
    have v1 := hv r (List.mem_cons_self ..)
    refine ⟨by show ("range" : Str) ≠ "call"; decide +kernel, pr_need_range, re_need_range, .need_range, ⟨_, rfl, by rw [v1.ln]; unfold NN; omega⟩, rfl, fun out e => ?_⟩
    have e' : out = R.getD r.toNat [] := ite_some e
    subst e'
    exact ⟨v1.ir, by rw [v1.ln]; omega, fun _ => v1.ln⟩
  | same r q o =>
    have v1 := hv r (List.mem_cons_self ..)
    refine ⟨by show ("same" : Str) ≠ "call"; decide +kernel, pr_need_same, re_need_same, .need_same, ⟨_, _, rfl⟩, rfl, fun out e => ?_⟩
    have e' : out = R.getD r.toNat [] := ite_some e
    subst e'
    exact ⟨v1.ir, by rw [v1.ln]; omega, fun _ => v1.ln⟩
  | join r q o =>
    have v1 := hv r (List.mem_cons_self ..)
    have v2 := hv q (List.mem_cons_of_mem _ (List.mem_cons_self ..))
    refine ⟨by show ("join" : Str) ≠ "call"; decide +kernel, pr_join_, re_join_, .join_, ⟨_, _, rfl, by rw [v1.ln, v2.ln]; unfold NN; omega⟩, rfl, fun out e => ?_⟩
    obtain rfl : R.getD r.toNat [] ++ R.getD q.toNat [] = out := Option.some.inj e
    refine ⟨fun y hy => ?_, by rw [List.length_append, v1.ln, v2.ln]; omega, fun z => absurd rfl z⟩
    rcases List.mem_append.mp hy with hy | hy
    · exact v1.ir y hy
    · exact v2.ir y hy
/-- registers behind k instructions -/
structure WfR (n : Nat) (code : List In) (k : Nat) (R : List (List Int)) : Prop where
  ln : R.length = 3 + k
  sf : ∀ r, Sf 3 code k r → Ve n (R.getD r.toNat [])
theorem Sf.lt {many : Nat} {code : List In} {k : Nat} {r : Int} (h : Sf many code k r) : 0 ≤ r ∧ r < many + (k : Int) := by
  obtain ⟨h0, h | ⟨j, h1, h2, _⟩⟩ := h <;> omega
theorem WfR.step {n : Nat} {code : List In} {k : Nat} {R : List (List Int)} {x : In} {out : List Int} (h : WfR n code k R) (e : code[k]? = some x) (hi : ∀ y ∈ out, InR y) (hl : x.nm ≠ "join" → out.length = n) : WfR n code (k + 1) (R ++ [out]) := by
  refine ⟨by rw [List.length_append, h.ln]; simp; omega, fun r hr => ?_⟩
  have lt := hr.lt
  by_cases c : r = 3 + (k : Int)
  · have e1 : (R ++ [out]).getD r.toNat [] = out := by
      rw [List.getD_eq_getElem?_getD, c, show (3 + (k : Int)).toNat = R.length by rw [h.ln]; omega, List.getElem?_append_right (Nat.le_refl _), Nat.sub_self]
      rfl
    rw [e1]
    obtain ⟨_, z | ⟨j, h1, h2, h3⟩⟩ := hr
    · omega
    · have : j = k := by omega
      subst this
      exact ⟨hl (h3 x e), hi⟩
  · have e1 : (R ++ [out]).getD r.toNat [] = R.getD r.toNat [] := by
      rw [List.getD_eq_getElem?_getD, List.getElem?_append_left (by rw [h.ln]; omega), ← List.getD_eq_getElem?_getD]
    rw [e1]
    obtain ⟨h0, z | ⟨j, h1, h2, h3⟩⟩ := hr
    · exact h.sf r ⟨h0, .inl z⟩
    · exact h.sf r ⟨h0, .inr ⟨j, by omega, h2, h3⟩⟩
abbrev St3 := List (List Int) × Int × Int
/-- one instruction: the registers, the steps, the touches -/
def stepI (call : List (List Int) → Option (List Int × Int × Int)) (x : In) (s : St3) : Option St3 :=
  if x.nm = "call" then (call (regs s.1 x.ins)).map fun r => (s.1 ++ [r.1], s.2.1 + 1 + r.2.1, s.2.2 + r.2.2)
  else (fI x (regs s.1 x.ins)).map fun out => (s.1 ++ [out], s.2.1 + 1, s.2.2 + (lens (regs s.1 x.ins ++ [out])).sum)
def runC (call : List (List Int) → Option (List Int × Int × Int)) : List In → St3 → Option St3
  | [], s => some s
  | x :: r, s => (stepI call x s).bind (runC call r)
end K11

namespace K11
open PySem PySem.Spec PyProof.Rows L2
/-- lists and tuples stand -/
def Lt (o : HO) : Prop := (∃ xs, o = .lst xs) ∨ ∃ xs, o = .tup xs
def Kn (H H' : Hp) : Prop := ∀ z o, Lt o → H z = some o → H' z = some o
theorem Kn.same {H H' : Hp} (s : Same H H') : Kn H H' := fun z o _ e => s z o e
theorem Kn.trans {H H1 H2 : Hp} (a : Kn H H1) (b : Kn H1 H2) : Kn H H2 := fun z o l e => b z o l (a z o l e)
theorem Kn.fr {H H' : Hp} {m : Addr} {C dx : Addr} {fs : List (Str × V)} (f : Fr [m] H H') (hm : H m = some (.ins C dx fs)) : Kn H H' := fun z o l e => f _ _ (fun k => by
  rw [List.mem_singleton.mp k, hm] at e
  rcases l with ⟨xs, rfl⟩ | ⟨xs, rfl⟩ <;> cases e) e
theorem InAt.kn {H H' : Hp} {x : In} {v : V} (h : InAt [] H x v) (k : Kn H H') : InAt [] H' x v := by
  obtain ⟨t, a, b, e, h1, h2, h3, n⟩ := h
  exact ⟨t, a, b, e, k _ _ (.inr ⟨_, rfl⟩) h1, k _ _ (.inl ⟨_, rfl⟩) h2, k _ _ (.inl ⟨_, rfl⟩) h3, n⟩
theorem InsAt.kn {H H' : Hp} (k : Kn H H') : ∀ {code : List In} {vs : List V}, InsAt [] H code vs → InsAt [] H' code vs
  | [], [], _ => trivial
  | _ :: _, _ :: _, ⟨a, b⟩ => ⟨a.kn k, b.kn k⟩
  | [], _ :: _, h => h.elim
  | _ :: _, [], h => h.elim
theorem VecsAt.kn {K : PySem.W.Frag} {H H' : Hp} (k : Kn H H') : ∀ {as : List Addr} {xss : List (List Int)}, VecsAt K H as xss → VecsAt K H' as xss
  | [], [], _ => trivial
  | _ :: _, _ :: _, ⟨a, b⟩ => ⟨k _ _ (.inl ⟨_, rfl⟩) a, b.kn k⟩
  | [], _ :: _, h => h.elim
  | _ :: _, [], h => h.elim
/-- the premises of the instruction x behind k instructions, at the registers, steps and touches s -/
def Pre (K : PySem.W.Frag) (TE CM : Addr) (spc : Sp) (call : List (List Int) → Option (List Int × Int × Int)) (H : Hp) (m bd pd : Addr) (dN : Int) (E : XK) (k : Nat) (x : In) (s : St3) : Prop :=
  s.1.length = 3 + k ∧ x.out = 3 + (k : Int) ∧ (∀ r ∈ x.ins, 0 ≤ r ∧ r < 3 + (k : Int)) ∧ x.ins.length ≤ 3 ∧
  ((x.nm ≠ "call" ∧ ∃ pr res, Ins x.nm pr res ∧ pr x.ex (regs s.1 x.ins) ∧ res x.ex (regs s.1 x.ins) = fI x (regs s.1 x.ins)) ∨
   (x.nm = "call" ∧ ∃ sx : Str, x.ex = .str sx ∧ ∀ (H1 : Hp) (q : Addr) (as : List Addr), Kn H H1 → (∀ z kvs, z ≠ m → H z = some (.dK kvs) → H1 z = some (.dK kvs)) → MachAt CM H1 m bd pd (s.2.1 + 1) s.2.2 (dN + 1) → H1 q = some (.lst (as.map V.ref)) → VecsAt K H1 as (regs s.1 x.ins) →
      ∀ Qc : VK, (∀ y H2, (∃ (f bb : Addr) (r : List Int × Int × Int), call (regs s.1 x.ins) = some r ∧ y = .ref f ∧ Fr [m] H1 H2 ∧ MachAt CM H2 m bd pd (s.2.1 + 1 + r.2.1) (s.2.2 + r.2.2) (dN + 1) ∧ H2 f = some (.lst [.ref bb]) ∧ H2 bb = some (.lst (iv r.1))) → Qc y H2) → (call (regs s.1 x.ins) = none → ∀ H2, E (.ref TE) none H2) → spc [.ref m, .str sx, .ref q, .int 1] H1 Qc E))
def spBlock (K : PySem.W.Frag) (TE CM : Addr) (spc : Sp) (call : List (List Int) → Option (List Int × Int × Int)) : Sp := fun vs H Q E => ∃ (m bd pd p : Addr) (nm : Str) (bk : Bk) (v : V) (kvs : List (L2.Key × V)) (as : List Addr) (xss : List (List Int)) (sN tN dN : Int) (good : Nat → St3 → Prop), vs = [.ref m, .str nm, .ref p] ∧ MachAt CM H m bd pd sN tN dN ∧ 0 ≤ dN ∧ dN < 40 ∧ H bd = some (.dK kvs) ∧ valV kvs (.inr nm) = some v ∧ H pd = some (.dK []) ∧ BlkAt [] H nm bk v ∧ H p = some (.lst (as.map V.ref)) ∧ VecsAt K H as xss ∧ xss.length = 3 ∧ bk.code.length ≤ 100 ∧
  good 0 (xss, sN, tN) ∧ (∀ k x s, bk.code[k]? = some x → good k s → Pre K TE CM spc call H m bd pd dN E k x s ∧ ∀ s', stepI call x s = some s' → good (k + 1) s') ∧
  (∀ s, runC call bk.code (xss, sN, tN) = some s → good bk.code.length s → (0 ≤ bk.res ∧ bk.res < s.1.length) ∧ ∀ (H' : Hp) (q b : Addr), Fr [m] H H' → MachAt CM H' m bd pd s.2.1 s.2.2 dN → H' q = some (.lst [.ref b]) → H' b = some (.lst (iv (s.1.getD bk.res.toNat []))) → Q (.ref q) H') ∧
  (runC call bk.code (xss, sN, tN) = none → ∀ H', E (.ref TE) none H')
section
variable {P : Program} {w : World} {K : PySem.W.Frag} {mg : Str → Option Value} {base : Heap} {b : Ad} {sa : SAd} {a : KAd}
theorem ok_run_block (M : MTxt w K mg b sa a) {spc : Sp} {l : Nat} {call : List (List Int) → Option (List Int × Int × Int)} (G_run_instruction : FnOk P w K mg base (L2.CX P w) l a.run_instruction.1 a.run_instruction.2 ["self", "instruction", "store"] (spInstr K b.TrapError a.C sa.C spc)) : FnOk P w K mg base (L2.CX P w) (max l 4 + 1) a.run_block.1 a.run_block.2 ["self", "name", "vectors"] (spBlock K b.TrapError a.C spc call) := by
  refine M.run_block.F.okX sc_Machine_run_block (fun vs H Q E h => ?_) (fun cdv A outer s H vs Q E hr h => ?_)
  · obtain ⟨_, _, _, _, _, _, _, _, _, _, _, _, _, _, rfl, _⟩ := h
    rfl
  obtain ⟨m, bd, pd, p, nm, bk, v, kvs, as, xss, sN, tN, dN, good, rfl, ⟨dxm, hm⟩, d0, d40, hbd, hkv, hpd, ⟨tb, cp, rp, pv_, nv, vs, rfl, htb, _, _, hcp, hins, hrp, _⟩, hp, hv, h3, hc100, g0, hstep, hfin, hno⟩ := h
  have nd := sc_Machine_run_block.nd
  have hu := hu_of hr
  have G_sinit := ok_sinit (P := P) (base := base) M.S
  have G_read := ok_read (P := P) (base := base) M.S
  have G_write := ok_write (P := P) (base := base) M.S
  refine ⟨_, (pss_cons (ps_if (pt_cmpR op_eq (pe_fld (pv 0) rfl) (pe_gv rfl M.lim) (nomark _)) (pss_one (ps_raise rfl (takes_of rfl rfl rfl rfl) (pmk_own PySem.F.excBase_ValueError M.S.T.xT M.S.T.gTrapError M.S.T.kT (raises_own M.S.T.bT M.S.T.tT) rfl))) pss_nil)
  (pss_cons (ps_fldaug (pv 0) pe_int ip_add)
  (pss_cons (ps_asg (pe_dget hu (pe_fld (pv 0) rfl) (pv 1) (fun _ _ => rfl)) (pg_tup rfl (pgs_cons (pg_name (i := 3) nd rfl (Or.inl rfl)) (pgs_cons (pg_name (i := 3) nd rfl (Or.inl rfl)) (pgs_cons (pg_name (i := 3) nd rfl (Or.inl rfl)) (pgs_cons (pg_name (i := 3) nd rfl (Or.inl rfl)) (pgs_cons (pg_name (i := 4) nd rfl (Or.inl rfl)) (pgs_cons (pg_name (i := 5) nd rfl (Or.inl rfl)) pgs_nil))))))))
  (pss_cons (ps_set (i := 6) nd rfl (Or.inl rfl) (pe_make M.S.mkk G_sinit (hr.mono (by omega)) rfl M.S.gC M.S.ib .nil pass0 (pa_cons (pe_dget1 hu (pe_fld (pv 0) rfl) (pv 1) ⟨rfl, rfl, rfl, rfl⟩) pa_nil)))
  (pss_cons (ps_expr (pe_meth (pv 6) M.S.cl M.S.write.m G_write (hr.mono (by omega)) M.S.write.b .nil pass0 (pa_cons (pe_listRg rfl (by rfl) M.S.T.list (prg_1 (by rfl) M.S.T.range (pe_callB call_len_seq (by rfl) M.S.T.len PySem.boot_len (pa_cons (pv 2) pa_nil)))) (pa_cons (pv 2) pa_nil))))
  (pss_cons (ps_for (L2.passes_of rfl) rfl (pi_list (pv 4)) (pg_name (i := 7) nd rfl (Or.inl rfl)) (pss_one (ps_expr (pe_meth (pv 0) M.cl M.run_instruction.m G_run_instruction (hr.mono (by omega)) M.run_instruction.b .nil (passes_call (takes_of rfl rfl rfl rfl) (fun _ _ _ _ h => h)) (pa_cons (pv 7) (pa_cons (pv 6) pa_nil))))))
  (pss_cons (ps_fldaug (pv 0) pe_int ip_sub)
  (pss_one (ps_ret (pe_meth (pv 6) M.S.cl M.S.read.m G_read (hr.mono (by omega)) M.S.read.b .nil pass0 (pa_cons (pv 5) pa_nil))))))))))), ?_⟩
  refine ⟨_, rfl, m, a.C, dxm, _, _, rfl, hm, M.cl, M.n_depth, rfl, rfl, _, rfl, ?_⟩
  refine ifF (by simp; omega) ?_
  refine ⟨_, rfl, m, a.C, dxm, _, _, rfl, hm, M.cl, M.n_depth, rfl, _, _, rfl, rfl, dxm, _, hm, (by show 5 < 1000; decide), ?_⟩
  obtain ⟨H1, e1⟩ : ∃ H1, upd H m (.ins a.C dxm (putF "depth" (.int (dN + 1)) [("blocks", .ref bd), ("plans", .ref pd), ("steps", .int sN), ("touches", .int tN), ("depth", .int dN)])) = H1 := ⟨_, rfl⟩
  rw [e1]
  have hm1 : H1 m = some (.ins a.C dxm [("blocks", .ref bd), ("plans", .ref pd), ("steps", .int sN), ("touches", .int tN), ("depth", .int (dN + 1))]) := by rw [← e1]; exact upd_same
  have f01 : Fr [m] H H1 := by rw [← e1]; exact Fr.put (by simp)
  clear e1
  have k01 := Kn.fr f01 hm
  have nbd : bd ∉ [m] := fun k => by rw [List.mem_singleton.mp k, hm] at hbd; cases hbd
  have npd : pd ∉ [m] := fun k => by rw [List.mem_singleton.mp k, hm] at hpd; cases hpd
  refine ⟨_, rfl, m, a.C, dxm, _, _, rfl, hm1, M.cl, M.n_blocks, rfl, _, rfl, bd, .ref tb, rfl, by rw [← hkv]; exact DGet.k (k := Sum.inr nm) (f01 _ _ nbd hbd), ?_⟩
  refine ⟨tb, _, rfl, .inl (.inl (k01 _ _ (.inr ⟨_, rfl⟩) htb)), rfl, _, _, rfl, _, _, rfl, _, _, rfl, _, _, rfl, _, _, rfl, _, _, rfl, rfl, ?_⟩
  refine ⟨_, rfl, m, a.C, dxm, _, _, rfl, hm1, M.cl, M.n_plans, rfl, pd, rfl, .inl ⟨_, .inl (f01 _ _ npd hpd)⟩, _, rfl, none, DGet.k (k := Sum.inr nm) (f01 _ _ npd hpd), fun so dxs hso hdx ne => ?_⟩
  refine ⟨so, dxs, rfl, upd_same, fun H2 d f2 nd2 st2 => ⟨rfl, ?_⟩⟩
  have nds : d ≠ so := fun z => by rw [z, upd_same] at nd2; cases nd2
  have ndx : d ≠ dxs := fun z => by rw [upd_ne nds, z, upd_same] at nd2; cases nd2
  have hd1 : H1 d = none := by rw [upd_ne nds, upd_ne ndx] at nd2; exact nd2
  have s12 : Same H1 H2 := fun z o ez => f2 _ _ (ne_of_none ez hso) (by rw [upd_ne (ne_of_none ez hso), upd_ne (ne_of_none ez hdx)]; exact ez)
  clear f2 nd2 hdx ne
  have hp2 := s12 _ _ (k01 _ _ (.inl ⟨_, rfl⟩) hp)
  obtain ⟨⟨dxo, hob2⟩, hreg2⟩ := id st2
  refine ⟨_, rfl, so, dxo, _, rfl, hob2, rfl, ?_⟩
  refine ⟨_, rfl, p, _, rfl, .inl (SqL.of hp2), ?_⟩
  have l3 : ((as.map V.ref).length : Int) = 3 := by rw [List.length_map, hv.len, h3]; rfl
  refine ⟨_, rfl, ⟨by omega, by omega, by omega, by omega, by rw [l3]; decide⟩, fun l nl => ?_⟩
  have s3 := same_new nl (.lst (rgV 0 ((as.map V.ref).length : Int)))
  have s13 := s12.trans s3
  have hm3 := s13 _ _ hm1
  have f03 : Fr [m] H (upd H2 l (.lst (rgV 0 ((as.map V.ref).length : Int)))) := fun z o n e => s13 _ _ (f01 _ _ n e)
  have hd0 : H d = none := by
    cases z : H d with
    | none => rfl
    | some o =>
      have n : d ∉ [m] := fun k => by rw [List.mem_singleton.mp k, hm1] at hd1; cases hd1
      have := f01 _ _ n z; rw [hd1] at this; cases this
  have nmd : m ≠ d := fun z => by rw [z, hd1] at hm1; cases hm1
  refine ⟨_, rfl, so, d, l, p, as, [], xss, rfl, ?_, s3 _ _ hp2, (hv.kn k01).same s13, by omega, by simp, st2.same s3, fun H4 f4 st4 => ?_⟩
  · rw [upd_same, l3, h3]; rfl
  have f04 : Fr [m] H H4 := fun z o n e => f4 _ _ (fun k => by rw [List.mem_singleton.mp k, hd0] at e; cases e) (f03 _ _ n e)
  have hm4 : H4 m = some (.ins a.C dxm [("blocks", .ref bd), ("plans", .ref pd), ("steps", .int sN), ("touches", .int tN), ("depth", .int (dN + 1))]) := f4 _ _ (fun k => nmd (List.mem_singleton.mp k)) hm3
  rw [List.nil_append] at st4
  have hvl := hins.len
  have hcp4 := (Kn.fr f04 hm) _ _ (.inl ⟨_, rfl⟩) hcp
  refine ⟨_, rfl, cp, rfl, ⟨_, SqL.of hcp4⟩, for_list (K := K) (a := cp) (xs := vs) (fun i σ H5 => ∃ (s : St3) (v7 : Option V), σ = [some (.ref m), some (.str nm), some (.ref p), some nv, some (.ref cp), some (.ref rp), some (.ref so), v7] ∧ good i s ∧ runC call (bk.code.drop i) s = runC call bk.code (xss, sN, tN) ∧ Fr [m] H H5 ∧ MachAt a.C H5 m bd pd s.2.1 s.2.2 (dN + 1) ∧ StoreAt K sa.C H5 so d s.1) ⟨(xss, sN, tN), none, rfl, g0, rfl, f04, ⟨dxm, hm4⟩, st4⟩ (fun i σ H5 _ h => by obtain ⟨_, _, _, _, _, f, _⟩ := h; exact SqL.of ((Kn.fr f hm) _ _ (.inl ⟨_, rfl⟩) hcp)) ?_ ?_⟩
  · rintro i y σ H5 hi ⟨s5, v7, rfl, gd, er, f5, ⟨dx5, hm5⟩, st5⟩
    obtain ⟨x, ex, hx⟩ := (hins.kn (Kn.fr f5 hm)).get hi
    obtain ⟨⟨q1, q2, q3, q4, hcase⟩, nxt⟩ := hstep i x s5 ex gd
    have il := (List.getElem?_eq_some_iff.mp ex).1
    have ed : bk.code.drop i = x :: bk.code.drop (i + 1) := by
      rw [List.drop_eq_getElem_cons il, (List.getElem?_eq_some_iff.mp ex).2]
    rw [ed] at er
    have er' : (stepI call x s5).bind (runC call (bk.code.drop (i + 1))) = runC call bk.code (xss, sN, tN) := er
    have bad : stepI call x s5 = none → ∀ H', E (.ref b.TrapError) none H' := fun z => hno (by rw [← er', z]; rfl)
    refine ⟨_, rfl, m, dx5, _, rfl, hm5, rfl, _, rfl, _, rfl, m, so, d, bd, pd, y, s5.2.1, s5.2.2, dN + 1, x, s5.1, rfl, ⟨dx5, hm5⟩, hx, st5, by rw [q1, q2]; omega, by rw [q1]; intro r hr; have := q3 r hr; omega, q4, by omega, ?_⟩
    have nzd : ∀ {z : Addr} {o : HO}, H z = some o → z ≠ d := fun {z o} e k => by rw [k, hd0] at e; cases e
    rcases hcase with ⟨hn, pr, res, hI, hpr, hfi⟩ | ⟨hn, sx, hex, hcall⟩
    · refine .inl ⟨hn, pr, res, hI, hpr, fun out eo H6 f6 m6 st6 => ?_, fun eo H6 _ => bad (by unfold stepI; rw [if_neg hn, ← hfi, eo]; rfl) H6⟩
      have es : stepI call x s5 = some (s5.1 ++ [out], s5.2.1 + 1, s5.2.2 + (lens (regs s5.1 x.ins ++ [out])).sum) := by unfold stepI; rw [if_neg hn, ← hfi, eo]; rfl
      rw [es] at er'
      exact ⟨_, _, rfl, nxt _ es, er', fun z o n e => f6 _ _ (fun k => by
        simp only [List.mem_cons, List.not_mem_nil, or_false] at k
        rcases k with k | k
        · exact n (List.mem_singleton.mpr k)
        · exact nzd e k) (f5 _ _ n e), m6, st6⟩
    · refine .inr ⟨hn, sx, hex, fun H6 q as' f6 m6 st6 hq6 hv6 Qc hQ => ?_⟩
      have f06 : Fr [m] H H6 := fun z o n e => f6 _ _ n (f5 _ _ n e)
      refine hcall H6 q as' (Kn.fr f06 hm) (fun z kvs n e => f06 _ _ (fun k => n (List.mem_singleton.mp k)) e) m6 hq6 hv6 Qc (fun yy H7 hy => ?_) (fun en => bad (by unfold stepI; rw [if_pos hn, en]; rfl))
      obtain ⟨f, bb, r, ecall, ey, f7, ⟨dx7, hm7⟩, hf7, hb7⟩ := hy
      refine hQ yy H7 ⟨f, bb, r.1, ey, f7, hf7, hb7, fun H8 f8 st8 => ?_⟩
      have es : stepI call x s5 = some (s5.1 ++ [r.1], s5.2.1 + 1 + r.2.1, s5.2.2 + r.2.2) := by unfold stepI; rw [if_pos hn, ecall]; rfl
      rw [es] at er'
      exact ⟨_, _, rfl, nxt _ es, er', fun z o n e => f8 _ _ (fun k => nzd e (List.mem_singleton.mp k)) (f7 _ _ n (f06 _ _ n e)), ⟨dx7, f8 _ _ (fun k => nmd (List.mem_singleton.mp k)) hm7⟩, st8⟩
  · rintro σ H5 ⟨s5, v7, rfl, gd, er, f5, ⟨dx5, hm5⟩, st5⟩
    rw [hvl] at gd er
    rw [List.drop_length] at er
    have es : runC call bk.code (xss, sN, tN) = some s5 := er.symm
    obtain ⟨hb, fin⟩ := hfin s5 es gd
    refine ⟨_, rfl, m, a.C, dx5, _, _, rfl, hm5, M.cl, M.n_depth, rfl, _, _, rfl, rfl, dx5, _, hm5, (by show 5 < 1000; decide), ?_⟩
    obtain ⟨H6, e6⟩ : ∃ H6, upd H5 m (.ins a.C dx5 (putF "depth" (.int (dN + 1 - 1)) [("blocks", .ref bd), ("plans", .ref pd), ("steps", .int s5.2.1), ("touches", .int s5.2.2), ("depth", .int (dN + 1))])) = H6 := ⟨_, rfl⟩
    rw [e6]
    have hm6 : H6 m = some (.ins a.C dx5 [("blocks", .ref bd), ("plans", .ref pd), ("steps", .int s5.2.1), ("touches", .int s5.2.2), ("depth", .int (dN + 1 - 1))]) := by rw [← e6]; exact upd_same
    have f56 : Fr [m] H5 H6 := by rw [← e6]; exact Fr.put (by simp)
    clear e6
    rw [show dN + 1 - 1 = dN by omega] at hm6
    have k06 := (Kn.fr f5 hm).trans (Kn.fr f56 hm5)
    obtain ⟨⟨dx5o, hob5⟩, hreg5⟩ := id st5
    have nso : so ∉ [m] := fun k => by
      rw [List.mem_singleton.mp k, hm1] at hso
      cases hso
    have hob6 := f56 _ _ nso hob5
    have st6 : StoreAt K sa.C H6 so d s5.1 := ⟨⟨dx5o, hob6⟩, hreg5.fr fun z o n e => f56 _ _ (fun k => by
      rw [List.mem_singleton.mp k, hm5] at e
      exact n _ _ _ (Option.some.inj e).symm) e⟩
    have hrp6 : H6 rp = some (.lst (iv [bk.res])) := k06 _ _ (.inl ⟨_, rfl⟩) hrp
    refine ⟨_, rfl, so, dx5o, _, rfl, hob6, rfl, _, rfl, so, d, rp, [bk.res], s5.1, rfl, SqL.of hrp6, st6, fun r hr => by rw [List.mem_singleton.mp hr]; omega, by simp, fun H7 q as7 s7 nq hq hv7 => ?_⟩
    obtain ⟨b7, rfl, _, hb7⟩ := VecsAt.one (x := s5.1.getD bk.res.toNat []) hv7
    exact fin H7 q b7 (fun z o n e => s7 _ _ (f56 _ _ n (f5 _ _ n e))) ⟨dx5, s7 _ _ hm6⟩ hq hb7
end
end K11

namespace K11
open PySem PySem.Spec PyProof.Rows L2
def spCallOf (CM : Addr) (spB : Sp) : Sp := fun vs H Q E => ∃ (m p v0 bd pd : Addr) (s5 t5 d5 : Int) (nm : V) (as : List Addr) (n : V) (y : Int) (ys : List Int), vs = [.ref m, nm, .ref p, n] ∧ MachAt CM H m bd pd s5 t5 d5 ∧ H p = some (.lst ((v0 :: as).map V.ref)) ∧ H v0 = some (.lst (iv (y :: ys))) ∧ spB [.ref m, nm, .ref p] H Q E
def spNo : Sp := fun _ _ _ _ => False
theorem ok_no {P : Program} {w : World} {K : PySem.W.Frag} {mg : Str → Option Value} {base : Heap} {cx : CXT} {f : Addr} {fd : FuncData} {ps : List Str} : FnOk P w K mg base cx 0 f fd ps spNo := ⟨fun _ _ _ _ h => h.elim, fun _ _ _ _ _ _ _ _ _ _ _ _ _ h => h.elim⟩
section
variable {P : Program} {w : World} {K : PySem.W.Frag} {mg : Str → Option Value} {base : Heap} {b : Ad} {sa : SAd} {a : KAd}
theorem ok_run_call (M : MTxt w K mg b sa a) {spB : Sp} {l : Nat} (G_run_block : FnOk P w K mg base (L2.CX P w) l a.run_block.1 a.run_block.2 ["self", "name", "vectors"] spB) : FnOk P w K mg base (L2.CX P w) (l + 1) a.run_call.1 a.run_call.2 ["self", "name", "vectors", "many"] (spCallOf a.C spB) := by
  refine M.run_call.F.okX sc_Machine_run_call (fun vs H Q E h => ?_) (fun cdv A outer s H vs Q E hr h => ?_)
  · obtain ⟨_, _, _, _, _, _, _, _, _, _, _, _, _, rfl, _⟩ := h
    rfl
  obtain ⟨m, p, v0, bd, pd, s5, t5, d5, nm, as, n, y, ys, rfl, ⟨dx, hm⟩, hp, hv, hB⟩ := h
  have nd := sc_Machine_run_call.nd
  refine ⟨_, (pss_cons (ps_if (pt_not (pt_truth (pe_ix ix_list (pv 2) pe_int (fun _ _ => rfl)) (fun _ => rfl))) (pss_one (ps_ret (pe_lc (own := [("_", 4)]) (g := gName 4) (tt := tYes) rfl nd (pi_range1 rfl M.S.T.range (pa_cons (pv 3) pa_nil)) (blkOk_by (N := ["self", "name", "vectors", "many", "_"]) (sc := defScope s_Machine_run_call) (by decide +kernel)) (fun _ _ _ _ _ => (pg_name (i := 4) nd rfl (Or.inl rfl))) (fun _ _ _ _ _ => pts_nil) (fun _ _ _ _ _ => (pe_lst pa_nil))))) pss_nil)
  (pss_one (ps_ret (pe_meth (pv 0) M.cl M.run_block.m G_run_block (hr.mono (by omega)) M.run_block.b .nil (passes_call (takes_of rfl rfl rfl rfl) (fun _ _ _ _ h => h)) (pa_cons (pv 1) (pa_cons (pv 2) pa_nil)))))), ?_⟩
  refine ⟨_, rfl, p, _, _, _, rfl, rfl, SqL.of hp, atI_nat (j := 0) rfl, ?_⟩
  refine ⟨true, .inl ⟨_, SqL.of hv, rfl⟩, ?_⟩
  refine ifF rfl ?_
  exact ⟨_, rfl, m, dx, _, rfl, hm, rfl, _, rfl, _, rfl, hB⟩
/-- blocks without calls; then blocks that call them -/
theorem ok_block0 (M : MTxt w K mg b sa a) : FnOk P w K mg base (L2.CX P w) 6 a.run_block.1 a.run_block.2 ["self", "name", "vectors"] (spBlock K b.TrapError a.C spNo (fun _ => none)) := ok_run_block M (ok_run_instruction M ok_no)
def spC (K : PySem.W.Frag) (TE CM : Addr) : Sp := spCallOf CM (spBlock K TE CM spNo (fun _ => none))
theorem ok_block1 (M : MTxt w K mg b sa a) {call : List (List Int) → Option (List Int × Int × Int)} : FnOk P w K mg base (L2.CX P w) 9 a.run_block.1 a.run_block.2 ["self", "name", "vectors"] (spBlock K b.TrapError a.C (spC K b.TrapError a.C) call) := ok_run_block M (ok_run_instruction M (ok_run_call M (ok_block0 M)))
end
end K11

namespace K11
open PySem PySem.Spec PyProof.Rows L2
theorem fmod_in {i j : Int} (hj : InR j) (h0 : j ≠ 0) : InR (i.fmod j) := by
  unfold InR at *
  rcases Int.lt_or_gt_of_ne h0 with hn | hp
  · have e : i.fmod j = -((-i).fmod (-j)) := by rw [Int.neg_fmod_neg, Int.neg_neg]
    have a1 := Int.fmod_nonneg_of_pos (-i) (b := -j) (by omega)
    have a2 := Int.fmod_lt_of_pos (-i) (b := -j) (by omega)
    omega
  · have a1 := Int.fmod_nonneg_of_pos i hp
    have a2 := Int.fmod_lt_of_pos i hp
    omega
/-! ### the law's own machine -/
def dueV (k : Nat) (i j : Int) : V := match opI k i j with
  | some n => .int (wrap n)
  | none => .non
def five (k : Nat) : Bool := k == 0 || k == 1 || k == 2 || k == 7 || k == 8
def dic5 (x : Nat → V) : List (L2.Key × V) := [(.inr "+", x 0), (.inr "-", x 1), (.inr "*", x 2), (.inr "<", x 7), (.inr "=", x 8)]
theorem dic5_get (x : Nat → V) {k : Nat} {s : Str} (hk : sgn[k]? = some s) (h : five k = true) : valV (mergeK [] (dic5 x)) (.inr s) = some (x k) := by
  unfold mergeK dic5
  simp only [List.foldl_cons, List.foldl_nil]
  match k, hk, h with
  | 0, hk, _ =>
    obtain rfl : ("+" : Str) = _ := Option.some.inj hk
    repeat rw [valV_put, if_neg (by decide +kernel)]
    rw [valV_put, if_pos rfl]
  | 1, hk, _ =>
    obtain rfl : ("-" : Str) = _ := Option.some.inj hk
    repeat rw [valV_put, if_neg (by decide +kernel)]
    rw [valV_put, if_pos rfl]
  | 2, hk, _ =>
    obtain rfl : ("*" : Str) = _ := Option.some.inj hk
    repeat rw [valV_put, if_neg (by decide +kernel)]
    rw [valV_put, if_pos rfl]
  | 7, hk, _ =>
    obtain rfl : ("<" : Str) = _ := Option.some.inj hk
    repeat rw [valV_put, if_neg (by decide +kernel)]
    rw [valV_put, if_pos rfl]
  | 8, hk, _ =>
    obtain rfl : ("=" : Str) = _ := Option.some.inj hk
    repeat rw [valV_put, if_neg (by decide +kernel)]
    rw [valV_put, if_pos rfl]
  | 3, _, h | 4, _, h | 5, _, h | 6, _, h => cases h
  | _ + 9, hk, _ => exact absurd hk (by simp [sgn])
def xt5 (a b : Int) : Nat → V
  | 0 => .int (a + b)
  | 1 => .int (a - b)
  | 2 => .int (a * b)
  | 7 => .int (if decide (a < b) = true then 1 else 0)
  | 8 => .int (if decide (V.int a = V.int b) = true then 1 else 0)
  | _ => .non
theorem xt5_is (a b : Int) {k : Nat} (h : five k = true) : ∃ n : Int, xt5 a b k = .int n ∧ opI k a b = some n := by
  match k, h with
  | 0, _ => exact ⟨_, rfl, rfl⟩
  | 1, _ => exact ⟨_, rfl, rfl⟩
  | 2, _ => exact ⟨_, rfl, rfl⟩
  | 7, _ => exact ⟨_, rfl, by simp [opI]⟩
  | 8, _ => exact ⟨_, rfl, by simp [opI]⟩
  | 3, h | 4, h | 5, h | 6, h => cases h
  | _ + 9, h => exact absurd h (by simp [five])
section
variable {P : Program} {w : World} {K : PySem.W.Frag} {mg : Str → Option Value} {base : Heap} {a : Ad}
theorem ok_law_wrap (T : Txt w K mg a) : FnOk P w K mg base CX0 1 a.law_wrap.1 a.law_wrap.2 ["n"] spWrapped := by
  refine T.law_wrap.F.ok sc_law_wrap (fun vs H Q E h => ?_) (fun cdv A outer s H vs Q E hr h => ?_)
  · obtain ⟨n, rfl, _⟩ := h
    rfl
  obtain ⟨n, rfl, q⟩ := h
  refine ⟨_, (pss_one (ps_ret (pe_op op_sub (pe_op op_mod (pe_callTy call_int1 (by rfl) T.int (by decide +kernel) (pa_cons (pe_op op_add (pv 0) pe_int) pa_nil)) pe_int) pe_int))), ?_⟩
  exact ⟨_, rfl, _, _, rfl, rfl, .inl ⟨_, rfl, _, _, rfl, rfl, (by show (0 : Int) < 4294967296; decide), _, _, rfl, rfl, q⟩⟩
def spLCalc : Sp := fun vs H Q _ => ∃ (k : Nat) (s : Str) (i j : Int), vs = [.str s, .int i, .int j] ∧ sgn[k]? = some s ∧ k ≠ 5 ∧ k ≠ 6 ∧ InR i ∧ InR j ∧ ∀ H', Same H H' → Q (dueV k i j) H'
theorem ok_law_calc (T : Txt w K mg a) : FnOk P w K mg base CX0 2 a.law_calc.1 a.law_calc.2 ["sign", "a", "b"] spLCalc := by
  refine T.law_calc.F.ok sc_law_calc (fun vs H Q E h => ?_) (fun cdv A outer s H vs Q E hr h => ?_)
  · obtain ⟨_, _, _, _, rfl, _⟩ := h
    rfl
  obtain ⟨k, s0, i, j, rfl, hk, h5, h6, hi, hj, q⟩ := h
  have nd := sc_law_calc.nd
  have hu := hu_of hr
  have G_law_wrap := ok_law_wrap (P := P) (w := w) (base := base) T
  refine ⟨_, (pss_cons (ps_if (pt_cmpR op_in_seq (pv 0) (pe_tup (pa_cons pe_str (pa_cons pe_str pa_nil))) (by rfl)) (pss_cons (ps_if (pt_cmpR op_eq (pv 2) pe_int (nomark _)) (pss_one (ps_ret pe_non)) pss_nil)
  (pss_one (ps_ret (pe_ix ix_list (pe_lst (pa_cons (pe_call G_law_wrap (hr.mono (by omega)) rfl T.law_wrap.g T.law_wrap.F.kp T.law_wrap.b .nil pass0 (pa_cons (pe_op op_fdivX (pv 1) (pv 2)) pa_nil)) (pa_cons (pe_op op_modN (pe_callTy call_int1 (by rfl) T.int (by decide +kernel) (pa_cons (pv 1) pa_nil)) (pv 2)) pa_nil))) (pe_callTy call_int1 (by rfl) T.int (by decide +kernel) (pa_cons (pe_cmpR op_eq (pv 0) pe_str (nomark _)) pa_nil)) (fun _ _ => rfl))))) pss_nil)
  (pss_one (ps_ret (pe_call G_law_wrap (hr.mono (by omega)) rfl T.law_wrap.g T.law_wrap.F.kp T.law_wrap.b .nil pass0 (pa_cons (pe_dget hu (pe_disp (pps_cons pe_str (pe_op op_add (pv 1) (pv 2)) (pps_cons pe_str (pe_op op_sub (pv 1) (pv 2)) (pps_cons pe_str (pe_op op_mul (pv 1) (pv 2)) (pps_cons pe_str (pe_callTy call_int1 (by rfl) T.int (by decide +kernel) (pa_cons (pe_cmpR op_lt (pv 1) (pv 2) (nomark _)) pa_nil)) (pps_cons pe_str (pe_callTy call_int1 (by rfl) T.int (by decide +kernel) (pa_cons (pe_cmpR op_eq (pv 1) (pv 2) (nomark _)) pa_nil)) pps_nil))))) (by rfl) (by rfl) (fun z => by cases z) (by decide)) (pv 0) (fun _ _ => rfl)) pa_nil))))), ?_⟩
  refine ⟨_, rfl, (by show 2 ≤ sizeLine; decide), fun p hp => ?_⟩
  have s1 := same_new hp (.tup [.str "/", .str "mod"])
  refine ⟨p, _, rfl, .inr (.inl (.inl upd_same)), rfl, rfl, _, rfl, ?_⟩
  match k, hk, q, h5, h6 with
  | 0, hk, q, h5, h6 =>
    obtain rfl : ("+" : Str) = _ := Option.some.inj hk
    refine ifF (by decide +kernel) ?_
    refine fun p3 hp3 => ?_
    have s3 := s1.trans (same_new hp3 (.dK (mergeK [] (dic5 (xt5 i j)))))
    refine ⟨_, rfl, _, rfl, _, _, rfl, rfl, _, rfl, _, rfl, _, _, rfl, rfl, _, rfl, _, rfl, _, _, rfl, rfl, .inl (by unfold InR at hi; omega), ?_⟩
    refine ⟨_, rfl, _, rfl, _, _, rfl, rfl, .inr ⟨_, rfl, _, rfl, _, rfl, rfl, .inr ⟨_, rfl, upd_same, dic5 (xt5 i j), rfl, (by show 5 ≤ 15; decide), ?_⟩⟩⟩
    rw [upd_upd]
    obtain ⟨n, en, on⟩ := xt5_is i j (k := 0) (by decide)
    refine ⟨_, rfl, p3, .int n, rfl, ?_, n, rfl, ?_⟩
    · rw [← en, ← dic5_get (xt5 i j) (k := 0) rfl (by decide)]
      exact DGet.k (k := Sum.inr "+") upd_same
    · have e := q _ s3
      unfold dueV at e
      rw [on] at e
      exact e
  | 1, hk, q, h5, h6 =>
    obtain rfl : ("-" : Str) = _ := Option.some.inj hk
    refine ifF (by decide +kernel) ?_
    refine fun p3 hp3 => ?_
    have s3 := s1.trans (same_new hp3 (.dK (mergeK [] (dic5 (xt5 i j)))))
    refine ⟨_, rfl, _, rfl, _, _, rfl, rfl, _, rfl, _, rfl, _, _, rfl, rfl, _, rfl, _, rfl, _, _, rfl, rfl, .inl (by unfold InR at hi; omega), ?_⟩
    refine ⟨_, rfl, _, rfl, _, _, rfl, rfl, .inr ⟨_, rfl, _, rfl, _, rfl, rfl, .inr ⟨_, rfl, upd_same, dic5 (xt5 i j), rfl, (by show 5 ≤ 15; decide), ?_⟩⟩⟩
    rw [upd_upd]
    obtain ⟨n, en, on⟩ := xt5_is i j (k := 1) (by decide)
    refine ⟨_, rfl, p3, .int n, rfl, ?_, n, rfl, ?_⟩
    · rw [← en, ← dic5_get (xt5 i j) (k := 1) rfl (by decide)]
      exact DGet.k (k := Sum.inr "-") upd_same
    · have e := q _ s3
      unfold dueV at e
      rw [on] at e
      exact e
  | 2, hk, q, h5, h6 =>
    obtain rfl : ("*" : Str) = _ := Option.some.inj hk
    refine ifF (by decide +kernel) ?_
    refine fun p3 hp3 => ?_
    have s3 := s1.trans (same_new hp3 (.dK (mergeK [] (dic5 (xt5 i j)))))
    refine ⟨_, rfl, _, rfl, _, _, rfl, rfl, _, rfl, _, rfl, _, _, rfl, rfl, _, rfl, _, rfl, _, _, rfl, rfl, .inl (by unfold InR at hi; omega), ?_⟩
    refine ⟨_, rfl, _, rfl, _, _, rfl, rfl, .inr ⟨_, rfl, _, rfl, _, rfl, rfl, .inr ⟨_, rfl, upd_same, dic5 (xt5 i j), rfl, (by show 5 ≤ 15; decide), ?_⟩⟩⟩
    rw [upd_upd]
    obtain ⟨n, en, on⟩ := xt5_is i j (k := 2) (by decide)
    refine ⟨_, rfl, p3, .int n, rfl, ?_, n, rfl, ?_⟩
    · rw [← en, ← dic5_get (xt5 i j) (k := 2) rfl (by decide)]
      exact DGet.k (k := Sum.inr "*") upd_same
    · have e := q _ s3
      unfold dueV at e
      rw [on] at e
      exact e
  | 7, hk, q, h5, h6 =>
    obtain rfl : ("<" : Str) = _ := Option.some.inj hk
    refine ifF (by decide +kernel) ?_
    refine fun p3 hp3 => ?_
    have s3 := s1.trans (same_new hp3 (.dK (mergeK [] (dic5 (xt5 i j)))))
    refine ⟨_, rfl, _, rfl, _, _, rfl, rfl, _, rfl, _, rfl, _, _, rfl, rfl, _, rfl, _, rfl, _, _, rfl, rfl, .inl (by unfold InR at hi; omega), ?_⟩
    refine ⟨_, rfl, _, rfl, _, _, rfl, rfl, .inr ⟨_, rfl, _, rfl, _, rfl, rfl, .inr ⟨_, rfl, upd_same, dic5 (xt5 i j), rfl, (by show 5 ≤ 15; decide), ?_⟩⟩⟩
    rw [upd_upd]
    obtain ⟨n, en, on⟩ := xt5_is i j (k := 7) (by decide)
    refine ⟨_, rfl, p3, .int n, rfl, ?_, n, rfl, ?_⟩
    · rw [← en, ← dic5_get (xt5 i j) (k := 7) rfl (by decide)]
      exact DGet.k (k := Sum.inr "<") upd_same
    · have e := q _ s3
      unfold dueV at e
      rw [on] at e
      exact e
  | 8, hk, q, h5, h6 =>
    obtain rfl : ("=" : Str) = _ := Option.some.inj hk
    refine ifF (by decide +kernel) ?_
    refine fun p3 hp3 => ?_
    have s3 := s1.trans (same_new hp3 (.dK (mergeK [] (dic5 (xt5 i j)))))
    refine ⟨_, rfl, _, rfl, _, _, rfl, rfl, _, rfl, _, rfl, _, _, rfl, rfl, _, rfl, _, rfl, _, _, rfl, rfl, .inl (by unfold InR at hi; omega), ?_⟩
    refine ⟨_, rfl, _, rfl, _, _, rfl, rfl, .inr ⟨_, rfl, _, rfl, _, rfl, rfl, .inr ⟨_, rfl, upd_same, dic5 (xt5 i j), rfl, (by show 5 ≤ 15; decide), ?_⟩⟩⟩
    rw [upd_upd]
    obtain ⟨n, en, on⟩ := xt5_is i j (k := 8) (by decide)
    refine ⟨_, rfl, p3, .int n, rfl, ?_, n, rfl, ?_⟩
    · rw [← en, ← dic5_get (xt5 i j) (k := 8) rfl (by decide)]
      exact DGet.k (k := Sum.inr "=") upd_same
    · have e := q _ s3
      unfold dueV at e
      rw [on] at e
      exact e
  | 3, hk, q, h5, h6 =>
    obtain rfl : ("/" : Str) = _ := Option.some.inj hk
    refine ifT (by decide +kernel) ?_
    refine ⟨_, rfl, rfl, _, rfl, ?_⟩
    refine ite2 (fun c => ?_) (fun c => ?_)
    · obtain rfl : j = 0 := V.int.inj (of_decide_eq_true c)
      exact q _ s1
    · have c' : ¬ j = 0 := fun z => c (by rw [z]; rfl)
      refine ⟨_, rfl, _, rfl, _, _, rfl, rfl, divx_ok c' hj, _, rfl, _, rfl, .inl ⟨_, rfl, _, rfl, _, _, rfl, rfl, c', (by show 2 ≤ sizeLine; decide), fun p2 hp2 => ?_⟩⟩
      refine ⟨_, rfl, rfl, .inr ⟨_, rfl, p2, _, _, _, rfl, rfl, SqL.of upd_same, atI_nat (j := 0) rfl, ?_⟩⟩
      have e := q _ (s1.trans (same_new hp2 (.lst [.int (wrap (i.fdiv j)), .int (i.fmod j)])))
      unfold dueV opI at e
      rw [if_neg c'] at e
      exact e
  | 4, hk, q, h5, h6 =>
    obtain rfl : ("mod" : Str) = _ := Option.some.inj hk
    refine ifT (by decide +kernel) ?_
    refine ⟨_, rfl, rfl, _, rfl, ?_⟩
    refine ite2 (fun c => ?_) (fun c => ?_)
    · obtain rfl : j = 0 := V.int.inj (of_decide_eq_true c)
      exact q _ s1
    · have c' : ¬ j = 0 := fun z => c (by rw [z]; rfl)
      refine ⟨_, rfl, _, rfl, _, _, rfl, rfl, divx_ok c' hj, _, rfl, _, rfl, .inl ⟨_, rfl, _, rfl, _, _, rfl, rfl, c', (by show 2 ≤ sizeLine; decide), fun p2 hp2 => ?_⟩⟩
      refine ⟨_, rfl, rfl, .inr ⟨_, rfl, p2, _, _, _, rfl, rfl, SqL.of upd_same, atI_nat (j := 1) rfl, ?_⟩⟩
      have e := q _ (s1.trans (same_new hp2 (.lst [.int (wrap (i.fdiv j)), .int (i.fmod j)])))
      have ev : dueV 4 i j = .int (wrap (i.fmod j)) := by
        have e4 : opI 4 i j = some (i.fmod j) := if_neg c'
        unfold dueV
        rw [e4]
      rw [ev, wrap_id (fmod_in hj c')] at e
      exact e
  | 5, _, _, h5, _ => exact absurd rfl h5
  | 6, _, _, _, h6 => exact absurd rfl h6
  | _ + 9, hk, _, _, _ => exact absurd hk (by simp [sgn])
end
end K11

namespace K11
open PySem PySem.Spec PyProof.Rows L2
section
variable {P : Program} {w : World} {K : PySem.W.Frag} {mg : Str → Option Value} {base : Heap} {a : Ad}
def spLExec (K : PySem.W.Frag) : Sp := fun vs H Q _ => ∃ (x : In) (p : Addr) (as : List Addr) (vss : List (List Int)) (n : Nat), vs = [.str x.nm, x.ex, .ref p] ∧ InKind x ∧ SqL K H p (as.map V.ref) ∧ VecsAt K H as vss ∧ vss.length = x.ins.length ∧ n ≤ 100 ∧ (∀ v ∈ vss, Ve n v) ∧
  (∀ out, fI x vss = some out → ∀ (H' : Hp) (q : Addr), Same H H' → H' q = some (.lst (iv out)) → (H q = none ∨ q ∈ as) → Q (.ref q) H') ∧ (fI x vss = none → ∀ H', Same H H' → Q .non H')
theorem ok_law_execute (T : Txt w K mg a) : FnOk P w K mg base CX0 3 a.law_execute.1 a.law_execute.2 ["name", "extra", "given"] (spLExec K) := by
  refine T.law_execute.F.ok sc_law_execute (fun vs H Q E h => ?_) (fun cdv A outer s H vs Q E hr h => ?_)
  · obtain ⟨_, _, _, _, _, rfl, _⟩ := h
    rfl
  obtain ⟨x, p, as, vss, n, rfl, hk, hp, hv, hlen, hn, hve, q, e⟩ := h
  have nd := sc_law_execute.nd
  have G_law_calc := ok_law_calc (P := P) (w := w) (base := base) T
  refine ⟨_, (pss_cons (ps_set (i := 3) nd rfl (Or.inr rfl) (pe_ix ix_list (pv 2) pe_int (fun _ _ => rfl)))
  (pss_cons (ps_if (pt_cmpR op_eq (pv 0) pe_str (nomark _)) (pss_one (ps_ret (pe_lc (own := [("item", 6)]) (g := gName 6) (tt := tYes) rfl nd (pi_list (pv 3)) (blkOk_by (N := ["name", "extra", "given", "first", "out", "k", "item", "n"]) (sc := defScope s_law_execute) (by decide +kernel)) (fun _ _ _ _ _ => (pg_name (i := 6) nd rfl (Or.inl rfl))) (fun _ _ _ _ _ => pts_nil) (fun _ _ _ _ _ => (pv 1))))) pss_nil)
  (pss_cons (ps_if (pt_cmpR op_eq (pv 0) pe_str (nomark _)) (pss_one (ps_ret (pe_lc (own := [("item", 6)]) (g := gName 6) (tt := tYes) rfl nd (pi_list (pv 3)) (blkOk_by (N := ["name", "extra", "given", "first", "out", "k", "item", "n"]) (sc := defScope s_law_execute) (by decide +kernel)) (fun _ _ _ _ _ => (pg_name (i := 6) nd rfl (Or.inl rfl))) (fun _ _ _ _ _ => pts_nil) (fun _ _ _ _ _ => (pe_callTy call_int1 (by rfl) T.int (by decide +kernel) (pa_cons (pe_cmpR op_ne (pv 6) pe_int (nomark _)) pa_nil)))))) pss_nil)
  (pss_cons (ps_if (pt_cmpR op_eq (pv 0) pe_str (nomark _)) (pss_one (ps_ret (pe_op op_cat (pv 3) (pe_ix ix_list (pv 2) pe_int (fun _ _ => rfl))))) pss_nil)
  (pss_cons (ps_if (pt_cmpR op_eq (pv 0) pe_str (nomark _)) (pss_cons (ps_if (pt_cmpR op_gt (pe_callB call_len_seq (by rfl) T.len PySem.boot_len (pa_cons (pe_lc (own := [("n", 7)]) (g := gName 7) rfl nd (pi_list (pv 3)) (blkOk_by (N := ["name", "extra", "given", "first", "out", "k", "item", "n"]) (sc := defScope s_law_execute) (by decide +kernel)) (fun _ _ _ _ _ => (pg_name (i := 7) nd rfl (Or.inl rfl))) (fun _ _ _ _ _ => (pts_one (PW.pt (pw_or (pt_cmpR op_lt (pv 7) pe_int (nomark _)) (pw_or1 (pt_cmpR op_gt (pv 7) pe_int (nomark _))))))) (fun _ _ _ _ _ => (pv 7))) pa_nil)) pe_int (nomark _)) (pss_one (ps_ret pe_non)) pss_nil)
  (pss_one (ps_ret (pv 3)))) pss_nil)
  (pss_cons (ps_if (pt_cmpR op_eq (pv 0) pe_str (nomark _)) (pss_cons (ps_if (pt_cmpR (op_neD hr.units) (pv 3) (pe_ix ix_list (pv 2) pe_int (fun _ _ => rfl)) (nomark _)) (pss_one (ps_ret pe_non)) pss_nil)
  (pss_one (ps_ret (pv 3)))) pss_nil)
  (pss_cons (ps_setLc (i := 4) (own := [("k", 5)]) (g := gName 5) (tt := tYes) rfl nd rfl rfl (sw_true rfl rfl rfl (by decide +kernel)) (pi_range1 rfl T.range (pa_cons (pe_callB call_len_seq (by rfl) T.len PySem.boot_len (pa_cons (pv 3) pa_nil)) pa_nil)) (blkOk_by (N := ["name", "extra", "given", "first", "out", "k", "item", "n"]) (sc := defScope s_law_execute) (by decide +kernel)) (fun _ _ _ _ _ => (pg_name (i := 5) nd rfl (Or.inl rfl))) (fun _ _ _ _ _ => pts_nil) (fun _ _ _ _ _ => (pe_call G_law_calc (hr.mono (by omega)) rfl T.law_calc.g T.law_calc.F.kp T.law_calc.b .nil pass0 (pa_cons (pv 1) (pa_cons (pe_ix (ix_listK (K := K) rfl) (pv 3) (pv 5) (fun _ _ => rfl)) (pa_cons (pe_ix (ix_listK (K := K) rfl) (pe_ix (ix_listK (K := K) rfl) (pv 2) pe_int (fun _ _ => rfl)) (pv 5) (fun _ _ => rfl)) pa_nil))))))
  (pss_cons (ps_if (pt_cmpR op_in_seq pe_non (pv 4) (by rfl)) (pss_one (ps_ret pe_non)) pss_nil)
  (pss_one (ps_ret (pv 4))))))))))), ?_⟩
  cases hk with
  | fill m0 r o h0 =>
    obtain ⟨v, rfl⟩ : ∃ v, vss = [v] := by
      cases vss with
      | nil => cases hlen
      | cons v r =>
        cases r with
        | nil => exact ⟨v, rfl⟩
        | cons _ _ => simp at hlen
    have v1 := hve v (List.mem_cons_self ..)
    have hv1 : v.length ≤ NN := by rw [v1.ln]; unfold NN; omega
    obtain ⟨b, rfl, hb, hb'⟩ := hv.one
    refine ⟨_, rfl, p, _, _, _, rfl, rfl, hp, rfl, ?_⟩
    refine ⟨_, rfl, rfl, _, rfl, ?_⟩
    refine ifT (show decide (V.str "fill" = V.str "fill") = true by decide +kernel) ?_
    refine ⟨_, rfl, b, rfl, ⟨_, hb⟩, fun D nD => lc_it (walk_list (K := K) (a := b) (xs := iv v)) (fun i H1 => Same H H1 ∧ H1 D = some (.lst (iv ((v.take i).map fun _ => m0)))) ⟨same_new nD _, by rw [List.take_zero]; exact upd_same⟩ (fun i H1 _ h => h.1.seq hb) ?_ ?_⟩
    · rintro i x H1 H2 hi ⟨sm, hD⟩ ⟨rfl, hx⟩
      obtain ⟨m, hm, rfl⟩ := iv_get hx
      refine ⟨rfl, _, rfl, tick sm nD hD (fun _ _ e => e) ?_ ?_⟩
      · rw [List.take_add_one, hm]; simp [iv]
      · rw [iv_len, List.length_map, List.length_take]; omega
    · rintro H1 ⟨sm, hD⟩
      rw [iv_len, List.take_length] at hD
      exact q _ rfl H1 D sm hD (.inl nD)
  | flags r o =>
    obtain ⟨v, rfl⟩ : ∃ v, vss = [v] := by
      cases vss with
      | nil => cases hlen
      | cons v r =>
        cases r with
        | nil => exact ⟨v, rfl⟩
        | cons _ _ => simp at hlen
    have v1 := hve v (List.mem_cons_self ..)
    have hv1 : v.length ≤ NN := by rw [v1.ln]; unfold NN; omega
    obtain ⟨b, rfl, hb, hb'⟩ := hv.one
    refine ⟨_, rfl, p, _, _, _, rfl, rfl, hp, rfl, ?_⟩
    refine ⟨_, rfl, rfl, _, rfl, ?_⟩
    refine ifF (show decide (V.str "flags" = V.str "fill") = false by decide +kernel) ?_
    refine ⟨_, rfl, rfl, _, rfl, ?_⟩
    refine ifT (show decide (V.str "flags" = V.str "flags") = true by decide +kernel) ?_
    refine ⟨_, rfl, b, rfl, ⟨_, hb⟩, fun D nD => lc_it (walk_list (K := K) (a := b) (xs := iv v)) (fun i H1 => Same H H1 ∧ H1 D = some (.lst (iv ((v.take i).map fun x => if x = 0 then 0 else 1)))) ⟨same_new nD _, by rw [List.take_zero]; exact upd_same⟩ (fun i H1 _ h => h.1.seq hb) ?_ ?_⟩
    · rintro i x H1 H2 hi ⟨sm, hD⟩ ⟨rfl, hx⟩
      obtain ⟨m, hm, rfl⟩ := iv_get hx
      refine ⟨rfl, _, rfl, rfl, .inr ⟨_, rfl, tick sm nD hD (fun _ _ e => e) ?_ ?_⟩⟩
      · rw [List.take_add_one, hm]
        by_cases c : m = 0 <;> simp [iv, c]
      · rw [iv_len, List.length_map, List.length_take]; omega
    · rintro H1 ⟨sm, hD⟩
      rw [iv_len, List.take_length] at hD
      exact q _ rfl H1 D sm hD (.inl nD)
  | join r q0 o =>
    obtain ⟨v, u, rfl⟩ : ∃ v u, vss = [v, u] := by
      cases vss with
      | nil => cases hlen
      | cons v r =>
        cases r with
        | nil => simp at hlen
        | cons u r =>
          cases r with
          | nil => exact ⟨v, u, rfl⟩
          | cons _ _ => simp at hlen
    have v1 := hve v (List.mem_cons_self ..)
    have u1 := hve u (List.mem_cons_of_mem _ (List.mem_cons_self ..))
    obtain ⟨b, c, rfl, hb, hc, hb', hc'⟩ := hv.two
    refine ⟨_, rfl, p, _, _, _, rfl, rfl, hp, rfl, ?_⟩
    refine ⟨_, rfl, rfl, _, rfl, ?_⟩
    refine ifF (show decide (V.str "join" = V.str "fill") = false by decide +kernel) ?_
    refine ⟨_, rfl, rfl, _, rfl, ?_⟩
    refine ifF (show decide (V.str "join" = V.str "flags") = false by decide +kernel) ?_
    refine ⟨_, rfl, rfl, _, rfl, ?_⟩
    refine ifT (show decide (V.str "join" = V.str "join") = true by decide +kernel) ?_
    refine ⟨_, rfl, _, rfl, p, _, _, _, rfl, rfl, hp, rfl, b, c, _, _, rfl, rfl, hb', hc', ?_, fun d nd' => ?_⟩
    · rw [iv_len, iv_len]; exact by rw [v1.ln, u1.ln]; exact Nat.le_trans (show _ ≤ 1000 by omega) (by decide)
    · exact q _ rfl _ d (same_new nd' _) (by rw [upd_same]; simp [iv]) (.inl nd')
  | range r o =>
    obtain ⟨v, rfl⟩ : ∃ v, vss = [v] := by
      cases vss with
      | nil => cases hlen
      | cons v r =>
        cases r with
        | nil => exact ⟨v, rfl⟩
        | cons _ _ => simp at hlen
    have v1 := hve v (List.mem_cons_self ..)
    have hv1 : v.length ≤ NN := by rw [v1.ln]; unfold NN; omega
    obtain ⟨b, rfl, hb, hb'⟩ := hv.one
    refine ⟨_, rfl, p, _, _, _, rfl, rfl, hp, rfl, ?_⟩
    refine ⟨_, rfl, rfl, _, rfl, ?_⟩
    refine ifF (show decide (V.str "range" = V.str "fill") = false by decide +kernel) ?_
    refine ⟨_, rfl, rfl, _, rfl, ?_⟩
    refine ifF (show decide (V.str "range" = V.str "flags") = false by decide +kernel) ?_
    refine ⟨_, rfl, rfl, _, rfl, ?_⟩
    refine ifF (show decide (V.str "range" = V.str "join") = false by decide +kernel) ?_
    refine ⟨_, rfl, rfl, _, rfl, ?_⟩
    refine ifT (show decide (V.str "range" = V.str "range") = true by decide +kernel) ?_
    refine ⟨_, rfl, b, rfl, ⟨_, hb⟩, fun D nD => lc_it (walk_list (K := K) (a := b) (xs := iv v)) (fun i H1 => Same H H1 ∧ H1 D = some (.lst (iv ((v.take i).filter fun x => decide (x < 0 ∨ x > 1000))))) ⟨same_new nD _, by rw [List.take_zero]; exact upd_same⟩ (fun i H1 _ h => h.1.seq hb) ?_ ?_⟩
    · rintro i x H1 H2 hi ⟨sm, hD⟩ ⟨rfl, hx⟩
      obtain ⟨m, hm, rfl⟩ := iv_get hx
      have no : ¬ (m < 0 ∨ m > 1000) → Same H H2 ∧ H2 D = some (.lst (iv ((v.take (i + 1)).filter fun x => decide (x < 0 ∨ x > 1000)))) := fun c => by
        refine ⟨sm, ?_⟩
        rw [List.take_add_one, hm, List.filter_append]
        simp only [Option.toList_some, List.filter_cons, List.filter_nil, decide_eq_false c]
        simpa using hD
      have yes : (m < 0 ∨ m > 1000) → iv ((v.take i).filter fun x => decide (x < 0 ∨ x > 1000)) ++ [V.int m] = iv ((v.take (i + 1)).filter fun x => decide (x < 0 ∨ x > 1000)) := fun c => by
        rw [List.take_add_one, hm, List.filter_append]
        simp only [Option.toList_some, List.filter_cons, List.filter_nil, decide_eq_true c]
        simp [iv]
      have bnd : (iv ((v.take (i + 1)).filter fun x => decide (x < 0 ∨ x > 1000))).length ≤ NN := by
        rw [iv_len]; exact Nat.le_trans (List.length_filter_le _ _) (by rw [List.length_take]; omega)
      refine ⟨rfl, _, rfl, _, _, rfl, rfl, _, rfl, ?_⟩
      by_cases c0 : m < 0
      · refine iteT' (decide_eq_true c0) ?_
        exact ⟨_, rfl, tick sm nD hD (fun _ _ e => e) (yes (.inl c0)) bnd⟩
      · refine iteF' (decide_eq_false c0) ?_
        refine ⟨_, rfl, _, _, rfl, rfl, _, rfl, ?_⟩
        by_cases c1 : m > 1000
        · refine ifT (decide_eq_true c1) ?_
          exact ⟨_, rfl, tick sm nD hD (fun _ _ e => e) (yes (.inr c1)) bnd⟩
        · refine ifF (decide_eq_false c1) ?_
          exact no fun z => z.elim c0 c1
    · rintro H1 ⟨sm, hD⟩
      rw [iv_len, List.take_length] at hD
      refine ⟨D, _, rfl, .inl (SqL.of hD), _, _, rfl, rfl, _, rfl, ?_⟩
      rw [iv_len]
      by_cases c : ∀ x ∈ v, 0 ≤ x ∧ x ≤ 1000
      · have z : (v.filter fun x => decide (x < 0 ∨ x > 1000)) = [] := List.filter_eq_nil_iff.mpr fun x hx => by have := c x hx; simp; omega
        refine ifF (by rw [z]; rfl) ?_
        exact ⟨_, rfl, q v (if_pos c) H1 b sm (sm _ _ hb') (.inr (List.mem_cons_self ..))⟩
      · have z : (v.filter fun x => decide (x < 0 ∨ x > 1000)) ≠ [] := fun z => c fun x hx => by
          have := List.filter_eq_nil_iff.mp z x hx
          simp at this
          omega
        refine ifT (decide_eq_true ?_) (e (if_neg c) H1 sm)
        have := List.length_pos_iff.mpr z
        omega
  | same r q0 o =>
    obtain ⟨v, u, rfl⟩ : ∃ v u, vss = [v, u] := by
      cases vss with
      | nil => cases hlen
      | cons v r =>
        cases r with
        | nil => simp at hlen
        | cons u r =>
          cases r with
          | nil => exact ⟨v, u, rfl⟩
          | cons _ _ => simp at hlen
    have v1 := hve v (List.mem_cons_self ..)
    have u1 := hve u (List.mem_cons_of_mem _ (List.mem_cons_self ..))
    obtain ⟨b, c, rfl, hb, hc, hb', hc'⟩ := hv.two
    refine ⟨_, rfl, p, _, _, _, rfl, rfl, hp, rfl, ?_⟩
    refine ⟨_, rfl, rfl, _, rfl, ?_⟩
    refine ifF (show decide (V.str "same" = V.str "fill") = false by decide +kernel) ?_
    refine ⟨_, rfl, rfl, _, rfl, ?_⟩
    refine ifF (show decide (V.str "same" = V.str "flags") = false by decide +kernel) ?_
    refine ⟨_, rfl, rfl, _, rfl, ?_⟩
    refine ifF (show decide (V.str "same" = V.str "join") = false by decide +kernel) ?_
    refine ⟨_, rfl, rfl, _, rfl, ?_⟩
    refine ifF (show decide (V.str "same" = V.str "range") = false by decide +kernel) ?_
    refine ⟨_, rfl, rfl, _, rfl, ?_⟩
    refine ifT (show decide (V.str "same" = V.str "same") = true by decide +kernel) ?_
    refine ⟨_, rfl, _, rfl, p, _, _, _, rfl, rfl, hp, rfl, _, _, nsd_dp hb, nsd_dp hc, nsd_shaped _, nsd_shaped _, _, rfl, ?_⟩
    by_cases c1 : v = u
    · refine ifF (by rw [nsd_eqv, decide_eq_true c1]; rfl) ?_
      exact ⟨_, rfl, q v (if_pos c1) H b (fun _ _ x => x) hb' (.inr (List.mem_cons_self ..))⟩
    · exact ifT (by rw [nsd_eqv, decide_eq_false c1]; rfl) (e (if_neg c1) H fun _ _ x => x)
  | calc1 k s0 r q0 o hk h5 h6 =>
    obtain ⟨v, u, rfl⟩ : ∃ v u, vss = [v, u] := by
      cases vss with
      | nil => cases hlen
      | cons v r =>
        cases r with
        | nil => simp at hlen
        | cons u r =>
          cases r with
          | nil => exact ⟨v, u, rfl⟩
          | cons _ _ => simp at hlen
    have v1 := hve v (List.mem_cons_self ..)
    have u1 := hve u (List.mem_cons_of_mem _ (List.mem_cons_self ..))
    obtain ⟨b, c, rfl, hb, hc, hb', hc'⟩ := hv.two
    refine ⟨_, rfl, p, _, _, _, rfl, rfl, hp, rfl, ?_⟩
    refine ⟨_, rfl, rfl, _, rfl, ?_⟩
    refine ifF (show decide (V.str "calc" = V.str "fill") = false by decide +kernel) ?_
    refine ⟨_, rfl, rfl, _, rfl, ?_⟩
    refine ifF (show decide (V.str "calc" = V.str "flags") = false by decide +kernel) ?_
    refine ⟨_, rfl, rfl, _, rfl, ?_⟩
    refine ifF (show decide (V.str "calc" = V.str "join") = false by decide +kernel) ?_
    refine ⟨_, rfl, rfl, _, rfl, ?_⟩
    refine ifF (show decide (V.str "calc" = V.str "range") = false by decide +kernel) ?_
    refine ⟨_, rfl, rfl, _, rfl, ?_⟩
    refine ifF (show decide (V.str "calc" = V.str "same") = false by decide +kernel) ?_
    have hul : u.length = v.length := by rw [v1.ln, u1.ln]
    refine ⟨_, rfl, b, _, rfl, .inl hb, _, rfl, Int.natCast_nonneg _, by rw [iv_len, v1.ln]; omega, fun D nD => lc_it (walk_range (lo := 0) (n := (iv v).length)) (fun i H1 => Same H H1 ∧ H1 D = some (.lst ((List.range i).map fun j => dueV k (at_ v j) (at_ u j)))) ⟨same_new nD _, upd_same⟩ (fun _ _ _ _ => trivial) ?_ ?_⟩
    · rintro i y HA HB hi ⟨sm, hD⟩ ⟨rfl, rfl⟩
      rw [iv_len] at hi
      refine ⟨rfl, _, rfl, _, rfl, _, rfl, b, _, _, _, rfl, rfl, sm.seq hb, (by rw [Int.zero_add]; exact atI_nat (get_iv (at_get hi))), _, rfl, p, _, _, _, rfl, rfl, sm.seq hp, atI_nat (j := 1) rfl, _, rfl, c, _, _, _, rfl, rfl, sm.seq hc, (by rw [Int.zero_add]; exact atI_nat (get_iv (at_get (by omega)))), k, s0, _, _, rfl, hk, h5, h6, v1.ir _ (List.mem_of_getElem? (at_get hi)), u1.ir _ (List.mem_of_getElem? (at_get (by omega))), fun H' s' => ?_⟩
      refine ⟨_, s' _ _ hD, by rw [List.length_map, List.length_range]; exact small1000 (by rw [v1.ln] at hi; omega), fun z o ez => ?_, ?_⟩
      · rw [upd_ne (ne_of_none ez nD)]; exact s' _ _ (sm _ _ ez)
      · rw [upd_same, List.range_succ, List.map_append]; rfl
    · rintro H1 ⟨sm, hD⟩
      rw [iv_len] at hD
      have flat : ((List.range v.length).map fun j => dueV k (at_ v j) (at_ u j)).all flatV = true := List.all_eq_true.mpr fun y hy => by
        obtain ⟨j, _, rfl⟩ := List.mem_map.mp hy
        unfold dueV
        split <;> rfl
      have ef : fI ⟨"calc", .str s0, [r, q0], o⟩ [v, u] = calcR k v u := by
        show calcR (sgn.idxOf s0) v u = _
        rw [sgn_idx hk]
      refine ⟨_, rfl, D, _, rfl, .inl (SqL.of hD), rfl, flat, _, rfl, ?_⟩
      by_cases c1 : ∀ i < v.length, opI k (at_ v i) (at_ u i) ≠ none
      · have exs : ((List.range v.length).map fun j => dueV k (at_ v j) (at_ u j)) = iv ((List.range v.length).map (calcI k v u)) := by
          unfold iv
          rw [List.map_map]
          refine List.map_congr_left fun j hj => ?_
          have := c1 j (List.mem_range.mp hj)
          unfold dueV
          cases e0 : opI k (at_ v j) (at_ u j) with
          | none => exact absurd e0 this
          | some z => show V.int (wrap z) = V.int (calcI k v u j); unfold calcI; rw [e0]; rfl
        rw [exs] at hD ⊢
        refine ifF ?_ ?_
        · rw [if_neg (by decide)]
          unfold inV iv
          rw [List.any_map]
          exact List.any_eq_false.mpr fun z _ => by simp [eqV]
        · exact ⟨_, rfl, q _ (by rw [ef]; exact if_pos c1) H1 D sm hD (.inl nD)⟩
      · refine ifT ?_ (e (by rw [ef]; exact if_neg c1) H1 sm)
        rw [if_neg (by decide)]
        have ⟨i, hi, hi2⟩ : ∃ i, i < v.length ∧ opI k (at_ v i) (at_ u i) = none := Classical.byContradiction fun z => c1 fun i hi e => z ⟨i, hi, e⟩
        refine List.any_eq_true.mpr ⟨dueV k (at_ v i) (at_ u i), List.mem_map.mpr ⟨i, List.mem_range.mpr hi, rfl⟩, ?_⟩
        unfold dueV
        rw [hi2]
        rfl
end
end K11

namespace K11
open PySem PySem.Spec PyProof.Rows L2
theorem Fr.same {X : List Addr} {H H1 : Hp} (s : Same H H1) : Fr X H H1 := fun z o _ e => s z o e
theorem Fr.trans {X : List Addr} {H H1 H2 : Hp} (a : Fr X H H1) (b : Fr X H1 H2) : Fr X H H2 := fun z o n e => b z o n (a z o n e)
/-- the registers of the law's own machine: none of their vectors is in X -/
def RegN (X : List Addr) (H : Hp) (d : Addr) (R : List (List Int)) : Prop := ∃ kvs : List (L2.Key × V), H d = some (.dK kvs) ∧ d ∉ X ∧ kvs.length ≤ R.length ∧ ∀ (k : Nat) (x : List Int), R[k]? = some x → ∃ b, valV kvs (.inl (k : Int)) = some (.ref b) ∧ H b = some (.lst (iv x)) ∧ b ∉ X
theorem RegN.fr {X : List Addr} {H H' : Hp} {d : Addr} {R : List (List Int)} (h : RegN X H d R) (f : Fr X H H') : RegN X H' d R := by
  obtain ⟨kvs, h1, h2, h3, h4⟩ := h
  refine ⟨kvs, f _ _ h2 h1, h2, h3, fun k x e => ?_⟩
  obtain ⟨b, e1, e2, e3⟩ := h4 k x e
  exact ⟨b, e1, f _ _ e3 e2, e3⟩
/-- one more register -/
theorem RegN.put {X : List Addr} {H : Hp} {d bb : Addr} {R : List (List Int)} {x : List Int} (h : RegN X H d R) (hb : H bb = some (.lst (iv x))) (nb : bb ∉ X) : ∃ kvs, H d = some (.dK kvs) ∧ kvs.length ≤ R.length ∧ RegN X (upd H d (.dK (putK kvs (.inl (R.length : Int)) (.ref bb)))) d (R ++ [x]) := by
  obtain ⟨kvs, h1, h2, h3, h4⟩ := h
  have ndb : bb ≠ d := fun z => by rw [z, h1] at hb; cases hb
  refine ⟨kvs, h1, h3, putK kvs (.inl (R.length : Int)) (.ref bb), upd_same, h2, ?_, fun k y e => ?_⟩
  · have := put_len (kvs := kvs) (k := .inl (R.length : Int)) (v := .ref bb)
    rw [List.length_append]; simp; omega
  · by_cases c : k < R.length
    · rw [List.getElem?_append_left c] at e
      obtain ⟨b, e1, e2, e3⟩ := h4 k y e
      have nb2 : b ≠ d := fun z => by rw [z, h1] at e2; cases e2
      refine ⟨b, ?_, by rw [upd_ne nb2]; exact e2, e3⟩
      rw [valV_put, if_neg]
      · exact e1
      · intro z
        have := Sum.inl.inj z
        omega
    · have lt := (List.getElem?_eq_some_iff.mp e).1
      have kk : k = R.length := by rw [List.length_append] at lt; simp at lt; omega
      subst kk
      rw [List.getElem?_append_right (Nat.le_refl _), Nat.sub_self] at e
      obtain rfl : x = y := Option.some.inj e
      refine ⟨bb, ?_, by rw [upd_ne ndb]; exact hb, nb⟩
      rw [valV_put, if_pos rfl]
/-- the premises of an instruction, on the law's side -/
def LPre (K : PySem.W.Frag) (spc : Sp) (call : List (List Int) → Option (List Int × Int × Int)) (H : Hp) (bl cv : Addr) (v2 : V) (E : XK) (k : Nat) (x : In) (s : St3) : Prop :=
  s.1.length = 3 + k ∧ x.out = 3 + (k : Int) ∧ (∀ r ∈ x.ins, 0 ≤ r ∧ r < 3 + (k : Int)) ∧ x.ins.length ≤ 3 ∧
  ((x.nm ≠ "call" ∧ InKind x ∧ ∃ n, n ≤ 100 ∧ ∀ v ∈ regs s.1 x.ins, Ve n v) ∨
   (x.nm = "call" ∧ (∃ y ys rest, regs s.1 x.ins = (y :: ys) :: rest) ∧ ∀ (H1 : Hp) (q : Addr) (as : List Addr), Fr [cv] H H1 → H1 cv = some (.lst [.int (s.2.1 + 1), .int s.2.2]) → q ∉ [cv] → H1 q = some (.lst (as.map V.ref)) → VecsAt K H1 as (regs s.1 x.ins) → (∀ b ∈ as, b ∉ [cv]) →
      ∀ Qc : VK, (∀ y H2, (∃ (b : Addr) (r : List Int × Int × Int), call (regs s.1 x.ins) = some r ∧ y = .ref b ∧ Fr [cv] H1 H2 ∧ H2 cv = some (.lst [.int (s.2.1 + 1 + r.2.1), .int (s.2.2 + r.2.2)]) ∧ H2 b = some (.lst (iv r.1)) ∧ b ∉ [cv]) → Qc y H2) → (call (regs s.1 x.ins) = none → ∀ H2, Fr [cv] H1 H2 → Qc .non H2) → spc [.ref bl, v2, .ref q, .ref cv] H1 Qc E0))
def spLBlock (K : PySem.W.Frag) (spc : Sp) (call : List (List Int) → Option (List Int × Int × Int)) : Sp := fun vs H Q E => ∃ (bl p cv : Addr) (nm : Str) (bk : Bk) (v v1 v2 : V) (as : List Addr) (xss : List (List Int)) (sN tN : Int) (good : Nat → St3 → Prop), vs = [.ref bl, v, .ref p, .ref cv] ∧ BlkAt [cv] H nm bk v ∧ H bl = some (.lst [v1, v2]) ∧ bl ∉ [cv] ∧ H p = some (.lst (as.map V.ref)) ∧ p ∉ [cv] ∧ VecsAt K H as xss ∧ (∀ b ∈ as, b ∉ [cv]) ∧ xss.length = 3 ∧ bk.code.length ≤ 100 ∧ H cv = some (.lst [.int sN, .int tN]) ∧
  good 0 (xss, sN, tN) ∧ (∀ k x s, bk.code[k]? = some x → good k s → LPre K spc call H bl cv v2 E k x s ∧ ∀ s', stepI call x s = some s' → good (k + 1) s') ∧
  (∀ s, runC call bk.code (xss, sN, tN) = some s → good bk.code.length s → (0 ≤ bk.res ∧ bk.res < s.1.length) ∧ ∀ (H' : Hp) (b : Addr), Fr [cv] H H' → H' cv = some (.lst [.int s.2.1, .int s.2.2]) → H' b = some (.lst (iv (s.1.getD bk.res.toNat []))) → b ∉ [cv] → Q (.ref b) H') ∧
  (runC call bk.code (xss, sN, tN) = none → ∀ H', Fr [cv] H H' → Q .non H')
section
variable {P : Program} {w : World} {K : PySem.W.Frag} {mg : Str → Option Value} {base : Heap} {a : Ad}
theorem ok_law_block (T : Txt w K mg a) {spc : Sp} {l : Nat} {call : List (List Int) → Option (List Int × Int × Int)} (G_law_block : FnOk P w K mg base CX0 l a.law_block.1 a.law_block.2 ["blocks", "block", "vectors", "count_v"] spc) : FnOk P w K mg base CX0 (max l 3 + 1) a.law_block.1 a.law_block.2 ["blocks", "block", "vectors", "count_v"] (spLBlock K spc call) := by
  refine T.law_block.F.ok sc_law_block (fun vs H Q E h => ?_) (fun cdv A outer s H vs Q E hr h => ?_)
  · obtain ⟨_, _, _, _, _, _, _, _, _, _, _, _, _, rfl, _⟩ := h
    rfl
  obtain ⟨bl, p, cv, nm, bk, v, v1, v2, as, xss, sN, tN, good, rfl, ⟨tb, cp, rp, pv_, nv, vs, rfl, htb, _, _, hcp, hins, hrp, n1, n2, n3⟩, hbl, nbl, hp, np, hv, nas, h3, hc100, hcv, g0, hstep, hfin, hno⟩ := h
  have nd := sc_law_block.nd
  have hu := hu_of hr
  have G_law_execute := ok_law_execute (P := P) (w := w) (base := base) T
  refine ⟨_, (pss_cons (ps_set (i := 4) nd rfl (Or.inr rfl) pe_dnewK)
  (pss_cons (ps_for PassesOwn.never rfl (pi_range1 rfl T.range (pa_cons (pe_callB call_len_seq (by rfl) T.len PySem.boot_len (pa_cons (pv 2) pa_nil)) pa_nil)) (pg_name (i := 5) nd rfl (Or.inl rfl)) (pss_one (ps_dput hu (pv 4) (pv 5) (pe_ix ix_list (pv 2) (pv 5) (fun _ _ => rfl)) rfl)))
  (pss_cons (ps_for PassesOwn.never rfl (pi_list (pe_ix ix_tup (pv 1) pe_int (fun _ _ => rfl))) (pg_tup rfl (pgs_cons (pg_name (i := 6) nd rfl (Or.inl rfl)) (pgs_cons (pg_name (i := 7) nd rfl (Or.inl rfl)) (pgs_cons (pg_name (i := 8) nd rfl (Or.inl rfl)) (pgs_cons (pg_name (i := 9) nd rfl (Or.inl rfl)) pgs_nil))))) (pss_cons (ps_setLc (i := 10) (own := [("k", 5)]) (g := gName 5) (tt := tYes) rfl nd rfl rfl (sw_true rfl rfl rfl (by decide +kernel)) (pi_list (pv 8)) (blkOk_by (N := ["blocks", "block", "vectors", "count_v", "values", "k", "name", "extra", "inputs", "outputs", "given", "out", "row"]) (sc := defScope s_law_block) (by decide +kernel)) (fun _ _ _ _ _ => (pg_name (i := 5) nd rfl (Or.inl rfl))) (fun _ _ _ _ _ => pts_nil) (fun _ _ _ _ _ => (pe_dget hu (pv 4) (pv 5) (fun _ _ => rfl))))
  (pss_cons (ps_asg (pe_op op_add (pe_ix ix_list (pv 3) pe_int (fun _ _ => rfl)) pe_int) (pg_sub (pv 3) pe_int set_list))
  (pss_cons (ps_if (pt_cmpR op_eq (pv 6) pe_str (nomark _)) (pss_cons (ps_set (i := 11) nd rfl (Or.inl rfl) (pe_lst pa_nil))
  (pss_one (ps_if (pt_cmpR op_gt (pe_callB call_len_seq (by rfl) T.len PySem.boot_len (pa_cons (pe_ix ix_list (pv 10) pe_int (fun _ _ => rfl)) pa_nil)) pe_int (nomark _)) (pss_one (ps_set (i := 11) nd rfl (Or.inl rfl) (pe_call G_law_block (hr.mono (by omega)) rfl T.law_block.g T.law_block.F.kp T.law_block.b .nil pass0 (pa_cons (pv 0) (pa_cons (pe_ix ix_list (pv 0) pe_int (fun _ _ => rfl)) (pa_cons (pv 10) (pa_cons (pv 3) pa_nil))))))) pss_nil))) (pss_cons (ps_set (i := 11) nd rfl (Or.inl rfl) (pe_call G_law_execute (hr.mono (by omega)) rfl T.law_execute.g T.law_execute.F.kp T.law_execute.b .nil pass0 (pa_cons (pv 6) (pa_cons (pv 7) (pa_cons (pv 10) pa_nil)))))
  (pss_one (ps_if (pt_cmpR op_notN (pv 11) pe_non (nomark _)) (pss_one (ps_for PassesOwn.never rfl (pi_list (pe_op op_cat (pv 10) (pe_lst (pa_cons (pv 11) pa_nil)))) (pg_name (i := 12) nd rfl (Or.inl rfl)) (pss_one (ps_asg (pe_op op_add (pe_ix ix_list (pv 3) pe_int (fun _ _ => rfl)) (pe_callB call_len_seq (by rfl) T.len PySem.boot_len (pa_cons (pv 12) pa_nil))) (pg_sub (pv 3) pe_int set_list))))) pss_nil))))
  (pss_cons (ps_if (pt_cmpR op_isN (pv 11) pe_non (nomark _)) (pss_one (ps_ret pe_non)) pss_nil)
  (pss_one (ps_dput hu (pv 4) (pe_ix ix_list (pv 9) pe_int (fun _ _ => rfl)) (pv 11) rfl)))))))
  (pss_one (ps_ret (pe_dget hu (pv 4) (pe_ix ix_list (pe_ix ix_tup (pv 1) pe_int (fun _ _ => rfl)) pe_int (fun _ _ => rfl)) (fun _ _ => rfl))))))), ?_⟩
  refine fun d nd0 => ?_
  have s1 := same_new nd0 (.dK [])
  have ncd : d ∉ [cv] := fun k => by rw [List.mem_singleton.mp k, hcv] at nd0; cases nd0
  have al := hv.len
  refine ⟨_, rfl, p, _, rfl, .inl (SqL.of (s1 _ _ hp)), _, rfl, Int.natCast_nonneg _, by rw [List.length_map, al]; omega, for_it (walk_range (lo := 0) (n := (as.map V.ref).length)) (fun i σ H1 => ∃ v5 : Option V, σ = [some (.ref bl), some (.ref tb), some (.ref p), some (.ref cv), some (.ref d), v5, none, none, none, none, none, none, none] ∧ (∀ z o, z ≠ d → H z = some o → H1 z = some o) ∧ RegN [cv] H1 d (xss.take i)) ⟨none, rfl, fun z o _ e => s1 _ _ e, [], upd_same, ncd, Nat.zero_le _, fun k x e => by simp at e⟩ (fun _ _ _ _ _ => trivial) ?_ ?_⟩
  · rintro i y σ Hx H1 hi ⟨v5, rfl, k1, hR⟩ ⟨rfl, rfl⟩
    rw [List.length_map, al] at hi
    obtain ⟨xi, exi⟩ : ∃ xi, xss[i]? = some xi := ⟨_, List.getElem?_eq_getElem hi⟩
    obtain ⟨bb, eb, hb⟩ := hv.get exi
    have nzd : ∀ {z : Addr} {o : HO}, H z = some o → z ≠ d := fun {z o} e => ne_of_none e nd0
    have nbc := nas bb (List.mem_of_getElem? eb)
    obtain ⟨kvs, hd, kl, hR'⟩ := hR.put (k1 _ _ (nzd hb) hb) nbc
    have li : (xss.take i).length = i := by rw [List.length_take]; omega
    rw [li] at kl hR'
    have ea : atI (as.map V.ref) (0 + (i : Int)) = some (.ref bb) := by rw [Int.zero_add]; exact atI_nat (by rw [List.getElem?_map, eb]; rfl)
    refine ⟨_, rfl, _, rfl, p, _, _, _, rfl, rfl, SqL.of (k1 _ _ (nzd hp) hp), ea, _, rfl, _, rfl, d, _, rfl, DPut.k (k := Sum.inl (0 + (i : Int))) hd (Nat.lt_of_le_of_lt kl (small1000 (by omega))), some (.int (0 + (i : Int))), rfl, fun z o n e => ?_, ?_⟩
    · rw [upd_ne n]; exact k1 _ _ n e
    · rw [Int.zero_add, List.take_add_one, exi]
      exact hR'
  rintro σ H1 ⟨v5, rfl, k1, hR⟩
  rw [List.length_map, al, List.take_length] at hR
  have nzd : ∀ {z : Addr} {o : HO}, H z = some o → z ≠ d := fun {z o} e => ne_of_none e nd0
  have f1 : Fr [cv] H H1 := fun z o _ e => k1 _ _ (nzd e) e
  have hcv1 := k1 _ _ (nzd hcv) hcv
  refine ⟨_, rfl, tb, _, _, _, rfl, rfl, .inl (.inl (f1 _ _ n1 htb)), atI_nat (j := 4) rfl, ?_⟩
  have hcp1 := f1 _ _ n2 hcp
  refine ⟨cp, rfl, ⟨_, SqL.of hcp1⟩, for_list (K := K) (a := cp) (xs := vs) (fun i σ H2 => ∃ (s : St3) (v5 v6 v7 v8 v9 v10 v11 v12 : Option V), σ = [some (.ref bl), some (.ref tb), some (.ref p), some (.ref cv), some (.ref d), v5, v6, v7, v8, v9, v10, v11, v12] ∧ good i s ∧ runC call (bk.code.drop i) s = runC call bk.code (xss, sN, tN) ∧ Fr [cv] H H2 ∧ H2 cv = some (.lst [.int s.2.1, .int s.2.2]) ∧ RegN [cv] H2 d s.1) ⟨(xss, sN, tN), v5, none, none, none, none, none, none, none, rfl, g0, rfl, f1, hcv1, hR⟩ (fun i σ H2 _ h => by obtain ⟨_, _, _, _, _, _, _, _, _, _, _, _, f, _⟩ := h; exact SqL.of (f _ _ n2 hcp)) ?_ ?_⟩
  · rintro i y σ H2 hi ⟨s5, v5, v6, v7, v8, v9, v10, v11, v12, rfl, gd, er, f2, hcv2, hR2⟩
    obtain ⟨x, ex, t, aa, bb, rfl, ht, ha, hb, nt, na, nb⟩ := (hins.fr f2).get hi
    obtain ⟨⟨q1, q2, q3, q4, hcase⟩, nxt⟩ := hstep i x s5 ex gd
    have il := (List.getElem?_eq_some_iff.mp ex).1
    have ed : bk.code.drop i = x :: bk.code.drop (i + 1) := by
      rw [List.drop_eq_getElem_cons il, (List.getElem?_eq_some_iff.mp ex).2]
    rw [ed] at er
    have er' : (stepI call x s5).bind (runC call (bk.code.drop (i + 1))) = runC call bk.code (xss, sN, tN) := er
    have bad : stepI call x s5 = none → ∀ H', Fr [cv] H H' → Q .non H' := fun z => hno (by rw [← er', z]; rfl)
    obtain ⟨kvs, hd2, _, kl2, hreg2⟩ := id hR2
    refine ⟨t, _, rfl, .inl (.inl ht), rfl, _, _, rfl, _, _, rfl, _, _, rfl, _, _, rfl, rfl, ?_⟩
    refine ⟨_, rfl, aa, rfl, ⟨_, SqL.of ha⟩, fun G nG => lc_it (walk_list (K := K) (a := aa) (xs := iv x.ins)) (fun j H3 => ∃ as' : List Addr, Same H2 H3 ∧ H3 G = some (.lst (as'.map V.ref)) ∧ VecsAt K H3 as' (regs s5.1 (x.ins.take j)) ∧ as'.length = j ∧ G ∉ as' ∧ ∀ b ∈ as', b ∉ [cv]) ⟨[], same_new nG _, upd_same, by rw [List.take_zero]; exact trivial, rfl, List.not_mem_nil, by simp⟩ (fun j H3 _ h => by obtain ⟨_, s, _⟩ := h; exact SqL.of (s _ _ ha)) ?_ ?_⟩
    · rintro j z H3 H3' hj ⟨as', sm, hG, hv', al', nGa, nca⟩ ⟨rfl, hz⟩
      obtain ⟨r, hr', rfl⟩ := iv_get hz
      rw [iv_len] at hj
      obtain ⟨r0, r1⟩ := q3 r (List.mem_of_getElem? hr')
      obtain ⟨k, rfl⟩ := Int.eq_ofNat_of_zero_le r0
      have hk : s5.1[k]? = some (s5.1.getD k []) := by rw [List.getD_eq_getElem?_getD, List.getElem?_eq_getElem (by omega)]; rfl
      obtain ⟨b2, e1, e2, e3⟩ := hreg2 k _ hk
      have nbG : b2 ≠ G := ne_of_none e2 nG
      refine ⟨rfl, _, rfl, _, rfl, d, .ref b2, rfl, ?_, as'.map V.ref, hG, by rw [List.length_map, al']; exact small1000 (by omega), as' ++ [b2], fun z o ez => ?_, ?_, ?_, by simp [al'], ?_, fun b hb => ?_⟩
      · rw [← e1]; exact DGet.k (k := Sum.inl (k : Int)) (sm _ _ hd2)
      · rw [upd_ne (ne_of_none ez nG)]; exact sm _ _ ez
      · rw [upd_same, List.map_append]; rfl
      · have : regs s5.1 (x.ins.take (j + 1)) = regs s5.1 (x.ins.take j) ++ [s5.1.getD k []] := by
          unfold regs
          rw [List.take_add_one, hr']
          simp
        rw [this]
        refine VecsAt.upd (VecsAt.snoc (sm _ _ e2) hv') fun m => ?_
        rcases List.mem_append.mp m with m | m
        · exact nGa m
        · exact nbG (List.mem_singleton.mp m).symm
      · intro m
        rcases List.mem_append.mp m with m | m
        · exact nGa m
        · exact nbG (List.mem_singleton.mp m).symm
      · rcases List.mem_append.mp hb with hb | hb
        · exact nca b hb
        · rw [List.mem_singleton.mp hb]; exact e3
    rintro H3 ⟨as', sm, hG, hv', al', _, nca⟩
    rw [iv_len, List.take_length] at hv'
    have hcv3 := sm _ _ hcv2
    have nGc : G ∉ [cv] := fun k => by rw [List.mem_singleton.mp k, hcv2] at nG; cases nG
    refine ⟨_, rfl, cv, _, _, _, rfl, rfl, SqL.of hcv3, atI_nat (j := 0) rfl, _, _, rfl, rfl, _, rfl, cv, _, _, 0, rfl, rfl, hcv3, rfl, ?_⟩
    obtain ⟨H4, e4⟩ : ∃ H4, upd H3 cv (.lst ([V.int s5.2.1, V.int s5.2.2].set 0 (.int (s5.2.1 + 1)))) = H4 := ⟨_, rfl⟩
    rw [e4]
    have hcv4 : H4 cv = some (.lst [.int (s5.2.1 + 1), .int s5.2.2]) := by rw [← e4]; exact upd_same
    have f34 : Fr [cv] H3 H4 := by rw [← e4]; exact Fr.put (by simp)
    clear e4
    have f24 := (Fr.same (X := [cv]) sm).trans f34
    have f04 := f2.trans f24
    have hG4 := f34 _ _ nGc hG
    have hv4 : VecsAt K H4 as' (regs s5.1 x.ins) := by
      have : ∀ {as' : List Addr} {ws : List (List Int)}, VecsAt K H3 as' ws → (∀ b ∈ as', b ∉ [cv]) → VecsAt K H4 as' ws := fun {as' ws} => by
        induction as' generalizing ws with
        | nil => cases ws <;> exact fun h _ => h
        | cons z r ih =>
          cases ws with
          | nil => exact fun h _ => h
          | cons y ys => exact fun h n => ⟨f34 _ _ (n z (List.mem_cons_self ..)) h.1, ih h.2 fun b m => n b (List.mem_cons_of_mem _ m)⟩
      exact this hv' nca
    refine ⟨_, rfl, rfl, _, rfl, ?_⟩
    rcases hcase with ⟨hn, hk, nn, hnn, hve⟩ | ⟨hn, ⟨y0, ys0, rest0, hr0⟩, hcall⟩
    · refine ifF (decide_eq_false fun z => hn (V.str.inj z)) ?_
      refine ⟨_, rfl, _, rfl, _, rfl, x, G, as', regs s5.1 x.ins, nn, rfl, hk, SqL.of hG4, hv4, List.length_map _, hnn, hve, fun out eo H5 o s6 ho hof => ?_, fun eo H5 s6 => ?_⟩
      · have es : stepI call x s5 = some (s5.1 ++ [out], s5.2.1 + 1, s5.2.2 + (lens (regs s5.1 x.ins ++ [out])).sum) := by unfold stepI; rw [if_neg hn, eo]; rfl
        have noc : o ∉ [cv] := by
          rcases hof with z | z
          · exact fun k => by rw [List.mem_singleton.mp k, hcv4] at z; cases z
          · exact nca o z
        refine ⟨_, rfl, rfl, _, rfl, ?_⟩
        refine ifT rfl ?_
        refine ⟨_, rfl, _, rfl, (by show 1 ≤ sizeLine; decide), fun w2 nw2 => ?_⟩
        have t1 := same_new nw2 (.lst [V.ref o])
        have lR : (regs s5.1 x.ins).length = x.ins.length := List.length_map _
        refine ⟨G, w2, _, _, rfl, rfl, t1 _ _ (s6 _ _ hG4), upd_same, by rw [List.length_map, al']; show _ + 1 ≤ sizeLine; rw [iv_len]; exact Nat.le_trans (show _ ≤ 1000 by omega) (by decide), fun e5 ne5 => ?_⟩
        have t2 := same_new ne5 (.lst (as'.map V.ref ++ [V.ref o]))
        have t6 := (s6.trans t1).trans t2
        have hvE : VecsAt K (upd (upd H5 w2 (.lst [V.ref o])) e5 (.lst (as'.map V.ref ++ [V.ref o]))) (as' ++ [o]) (regs s5.1 x.ins ++ [out]) := VecsAt.snoc (t2 _ _ (t1 _ _ ho)) (hv4.same t6)
        have hE : (upd (upd H5 w2 (.lst [V.ref o])) e5 (.lst (as'.map V.ref ++ [V.ref o]))) e5 = some (.lst ((as' ++ [o]).map V.ref)) := by rw [upd_same, List.map_append]; rfl
        have n5c : e5 ∉ [cv] := fun k => by
          rw [List.mem_singleton.mp k, t1 _ _ (s6 _ _ hcv4)] at ne5
          cases ne5
        generalize (upd (upd H5 w2 (.lst [V.ref o])) e5 (.lst (as'.map V.ref ++ [V.ref o]))) = HE at t6 hvE hE ⊢
        have hcvE := t6 _ _ hcv4
        have nall : ∀ b ∈ as' ++ [o], b ∉ [cv] := fun b m => by
          rcases List.mem_append.mp m with m | m
          · exact nca b m
          · rw [List.mem_singleton.mp m]; exact noc
        refine ⟨e5, rfl, ⟨_, SqL.of hE⟩, for_list (K := K) (a := e5) (xs := (as' ++ [o]).map V.ref) (fun j σ H6 => ∃ v12 : Option V, σ = [some (.ref bl), some (.ref tb), some (.ref p), some (.ref cv), some (.ref d), v5, some (.str x.nm), some x.ex, some (.ref aa), some (.ref bb), some (.ref G), some (.ref o), v12] ∧ Fr [cv] HE H6 ∧ H6 cv = some (.lst [.int (s5.2.1 + 1), .int (s5.2.2 + ((lens (regs s5.1 x.ins ++ [out])).take j).sum)])) ⟨v12, rfl, fun _ _ _ e => e, by rw [List.take_zero]; simpa using hcvE⟩ (fun j σ H6 _ h => by obtain ⟨_, _, f, _⟩ := h; exact SqL.of (f _ _ n5c hE)) ?_ ?_⟩
        · rintro j z σ H6 hj ⟨u12, rfl, f6, hcv6⟩
          rw [List.getElem?_map] at hj
          cases eb : (as' ++ [o])[j]? with
          | none => rw [eb] at hj; cases hj
          | some zz =>
            rw [eb] at hj
            obtain rfl := (Option.some.inj hj).symm
            obtain ⟨xz, ez, hz⟩ := hvE.geta eb
            have hz6 := f6 _ _ (nall zz (List.mem_of_getElem? eb)) hz
            refine ⟨_, rfl, cv, _, _, _, rfl, rfl, SqL.of hcv6, atI_nat (j := 1) rfl, _, rfl, zz, _, rfl, .inl (SqL.of hz6), _, _, rfl, rfl, _, rfl, cv, _, _, 1, rfl, rfl, hcv6, rfl, some (.ref zz), rfl, f6.trans (Fr.put (by simp)), ?_⟩
            rw [upd_same, List.take_add_one]
            have : (lens (regs s5.1 x.ins ++ [out]))[j]? = some (xz.length : Int) := by unfold lens; rw [List.getElem?_map, ez]; rfl
            rw [this, List.sum_append]
            simp [iv, Int.add_assoc]
        · rintro σ H6 ⟨u12, rfl, f6, hcv6⟩
          have e6 : (lens (regs s5.1 x.ins ++ [out])).take (((as' ++ [o]).map V.ref).length) = lens (regs s5.1 x.ins ++ [out]) := by
            refine List.take_of_length_le ?_
            unfold lens
            simp [al', lR, iv_len]
          rw [e6] at hcv6
          have f46 : Fr [cv] H4 H6 := (Fr.same t6).trans f6
          have f26 := f24.trans f46
          have ho6 := f6 _ _ noc (hvE.last)
          refine ⟨_, rfl, rfl, _, rfl, ?_⟩
          refine ifF rfl ?_
          obtain ⟨kvs6, hd6, kl6, hR6⟩ := (hR2.fr f26).put ho6 noc
          have eo2 : x.out = (s5.1.length : Int) := by rw [q1, q2]; omega
          refine ⟨_, rfl, _, rfl, _, rfl, bb, _, _, _, rfl, rfl, SqL.of (f26 _ _ nb hb), atI_nat (j := 0) rfl, d, _, rfl, DPut.k (k := Sum.inl x.out) hd6 (Nat.lt_of_le_of_lt kl6 (small1000 (by omega))), ?_⟩
          rw [es] at er'
          refine ⟨_, _, _, _, _, _, _, _, _, rfl, nxt _ es, er', fun z o2 n e => ?_, ?_, ?_⟩
          · rw [upd_ne (ne_of_none e nd0)]; exact (f2.trans f26) _ _ n e
          · rw [upd_ne (fun k => ncd (by rw [k]; exact List.mem_singleton.mpr rfl))]; exact hcv6
          · rw [eo2]; exact hR6
      · refine ⟨_, rfl, rfl, _, rfl, ?_⟩
        refine ifF rfl ?_
        refine ⟨_, rfl, rfl, _, rfl, ?_⟩
        refine ifT rfl ?_
        exact bad (by unfold stepI; rw [if_neg hn, eo]; rfl) _ (f04.trans (Fr.same s6))
    · refine ifT (decide_eq_true (congrArg V.str hn)) ?_
      refine ⟨(by show 0 ≤ sizeLine; decide), fun o0 no0 => ?_⟩
      have t1 := same_new no0 (.lst [])
      obtain ⟨b0, ar, rfl⟩ : ∃ b0 ar, as' = b0 :: ar := by
        cases as' with
        | nil => rw [hr0] at hv4; exact hv4.elim
        | cons b0 ar => exact ⟨b0, ar, rfl⟩
      have hb0 : H4 b0 = some (.lst (iv (y0 :: ys0))) := by
        have h := hv4
        rw [hr0] at h
        exact h.1
      have hcv5 := t1 _ _ hcv4
      have hG5 := t1 _ _ hG4
      refine ⟨_, rfl, G, _, _, _, rfl, rfl, SqL.of hG5, atI_nat (j := 0) rfl, b0, _, rfl, .inl (SqL.of (t1 _ _ hb0)), _, _, rfl, rfl, _, rfl, ?_⟩
      refine ifT (by rw [iv_len]; exact decide_eq_true (by rw [List.length_cons]; omega)) ?_
      have f05 := f04.trans (Fr.same t1)
      refine ⟨_, rfl, _, rfl, bl, _, _, _, rfl, rfl, SqL.of (f05 _ _ nbl hbl), atI_nat (j := 1) rfl, _, rfl, _, rfl, ?_⟩
      refine hcall _ G (b0 :: ar) f05 hcv5 nGc hG5 (hv4.same t1) nca _ (fun yy H6 hy => ?_) (fun en H6 f6 => ?_)
      · obtain ⟨b6, r, ecall, rfl, f6, hcv6, hb6, nb6⟩ := hy
        have es : stepI call x s5 = some (s5.1 ++ [r.1], s5.2.1 + 1 + r.2.1, s5.2.2 + r.2.2) := by unfold stepI; rw [if_pos hn, ecall]; rfl
        refine ⟨_, rfl, rfl, _, rfl, ?_⟩
        refine ifF rfl ?_
        have f26 := (f24.trans (Fr.same t1)).trans f6
        obtain ⟨kvs6, hd6, kl6, hR6⟩ := (hR2.fr f26).put hb6 nb6
        have eo2 : x.out = (s5.1.length : Int) := by rw [q1, q2]; omega
        refine ⟨_, rfl, _, rfl, _, rfl, bb, _, _, _, rfl, rfl, SqL.of (f26 _ _ nb hb), atI_nat (j := 0) rfl, d, _, rfl, DPut.k (k := Sum.inl x.out) hd6 (Nat.lt_of_le_of_lt kl6 (small1000 (by omega))), ?_⟩
        rw [es] at er'
        refine ⟨_, _, _, _, _, _, _, _, _, rfl, nxt _ es, er', fun z o2 n e => ?_, ?_, ?_⟩
        · rw [upd_ne (ne_of_none e nd0)]; exact (f2.trans f26) _ _ n e
        · rw [upd_ne (fun k => ncd (by rw [k]; exact List.mem_singleton.mpr rfl))]; exact hcv6
        · rw [eo2]; exact hR6
      · refine ⟨_, rfl, rfl, _, rfl, ?_⟩
        refine ifT rfl ?_
        exact bad (by unfold stepI; rw [if_pos hn, en]; rfl) _ (f05.trans f6)
  · rintro σ H2 ⟨s5, v5, v6, v7, v8, v9, v10, v11, v12, rfl, gd, er, f2, hcv2, hR2⟩
    rw [hins.len] at gd er
    rw [List.drop_length] at er
    have es : runC call bk.code (xss, sN, tN) = some s5 := er.symm
    obtain ⟨hb, fin⟩ := hfin s5 es gd
    obtain ⟨kvs, hd2, _, kl2, hreg2⟩ := id hR2
    have hk : s5.1[bk.res.toNat]? = some (s5.1.getD bk.res.toNat []) := by rw [List.getD_eq_getElem?_getD, List.getElem?_eq_getElem (by omega)]; rfl
    obtain ⟨b2, e1, e2, e3⟩ := hreg2 _ _ hk
    refine ⟨_, rfl, _, rfl, tb, _, _, _, rfl, rfl, .inl (.inl (f2 _ _ n1 htb)), atI_nat (j := 5) rfl, rp, _, _, _, rfl, rfl, SqL.of (f2 _ _ n3 hrp), atI_nat (j := 0) rfl, d, .ref b2, rfl, ?_, fin H2 b2 f2 hcv2 e2 e3⟩
    rw [← e1, show ((bk.res.toNat : Nat) : Int) = bk.res by omega]
    exact DGet.k (k := Sum.inl bk.res) hd2
end
end K11

namespace K11
open PySem PySem.Spec PyProof.Rows L2
/-- pairs of numbers, as tuples -/
def PrsAt (H : Hp) : List V → List (Int × Int) → Prop
  | [], [] => True
  | v :: vs, q :: qs => (∃ t, v = .ref t ∧ H t = some (.tup [.int q.1, .int q.2])) ∧ PrsAt H vs qs
  | _, _ => False
theorem PrsAt.same {H H' : Hp} (s : Same H H') : ∀ {vs : List V} {qs : List (Int × Int)}, PrsAt H vs qs → PrsAt H' vs qs
  | [], [], _ => trivial
  | _ :: _, _ :: _, ⟨⟨t, e, h⟩, r⟩ => ⟨⟨t, e, s _ _ h⟩, r.same s⟩
  | [], _ :: _, h => h.elim
  | _ :: _, [], h => h.elim
theorem PrsAt.len {H : Hp} : ∀ {vs : List V} {qs : List (Int × Int)}, PrsAt H vs qs → vs.length = qs.length
  | [], [], _ => rfl
  | _ :: _, _ :: _, ⟨_, r⟩ => congrArg (· + 1) r.len
  | [], _ :: _, h => h.elim
  | _ :: _, [], h => h.elim
theorem PrsAt.get {H : Hp} {v : V} : ∀ {vs : List V} {qs : List (Int × Int)} {i : Nat}, PrsAt H vs qs → vs[i]? = some v → ∃ t q, qs[i]? = some q ∧ v = .ref t ∧ H t = some (.tup [.int q.1, .int q.2])
  | _ :: _, q :: _, 0, ⟨⟨t, e, h⟩, _⟩, ev => ⟨t, q, rfl, by rw [← Option.some.inj ev]; exact e, h⟩
  | _ :: _, _ :: _, i + 1, ⟨_, r⟩, ev => r.get (i := i) ev
  | [], _, i, _, ev => by simp at ev
  | _ :: _, [], _, h, _ => h.elim
theorem ifY {c : Prop} [Decidable c] {A B : Prop} (h : c) (q : A) : if c then A else B := by rw [if_pos h]; exact q
theorem ifN {c : Prop} [Decidable c] {A B : Prop} (h : ¬ c) (q : B) : if c then A else B := by rw [if_neg h]; exact q
/-- the turns of vectors_of at a pair of numbers -/
def Turn (H : Hp) (kv : V) (p D W : Addr) (x y : V) (vs : List V) (qs : List (Int × Int)) (n : Nat) (H' : Hp) : Prop :=
  Same H H' ∧ D ≠ W ∧
  ((n = 3 ∧ ∃ t, H' W = some (.lst [.ref t]) ∧ H' t = some (.tup [kv, .ref p]) ∧ H' D = some (.lst [])) ∨
   (n = 2 ∧ ∃ t2 t1 L2 L1, H' W = some (.lst [.ref t2, .ref t1]) ∧ H' t2 = some (.tup [y, .ref L2]) ∧ H' t1 = some (.tup [x, .ref L1]) ∧ H' L2 = some (.lst (iv (qs.map (·.2)))) ∧ H' L1 = some (.lst (iv (qs.map (·.1)))) ∧ H' D = some (.lst []) ∧ L2 ≠ W ∧ L2 ≠ D ∧ L1 ≠ W ∧ L1 ≠ D) ∨
   (n = 1 ∧ ∃ t2 L2 A1, H' W = some (.lst [.ref t2]) ∧ H' t2 = some (.tup [y, .ref L2]) ∧ H' L2 = some (.lst (iv (qs.map (·.2)))) ∧ H' D = some (.lst [.ref A1]) ∧ H' A1 = some (.lst (iv (qs.map (·.1)))) ∧ L2 ≠ W ∧ L2 ≠ D ∧ A1 ≠ W ∧ A1 ≠ D) ∨
   (n = 0 ∧ ∃ A1 A2, H' W = some (.lst []) ∧ H' D = some (.lst [.ref A1, .ref A2]) ∧ H' A1 = some (.lst (iv (qs.map (·.1)))) ∧ H' A2 = some (.lst (iv (qs.map (·.2))))))
section
variable {P : Program} {w : World} {K : PySem.W.Frag} {mg : Str → Option Value} {base : Heap} {a : Ad}
def spVecs2 (K : PySem.W.Frag) (X : List Addr) : Sp := fun vs H Q _ => ∃ (kv x y : V) (p kp : Addr) (us : List V) (qs : List (Int × Int)), vs = [kv, .ref p] ∧ kv = .ref kp ∧ H kp = some (.tup [.str "pair", x, y]) ∧ NumAt X H x ∧ NumAt X H y ∧ H p = some (.lst us) ∧ PrsAt H us qs ∧ qs.length ≤ 900 ∧
  ∀ (H' : Hp) (r : Addr) (as : List Addr), Same H H' → H r = none → H' r = some (.lst (as.map V.ref)) → VecsAt K H' as [qs.map (·.1), qs.map (·.2)] → Q (.ref r) H'
theorem ok_vectors_of (T : Txt w K mg a) (X : List Addr) : FnOk P w K mg base CX0 1 a.vectors_of.1 a.vectors_of.2 ["kind", "values"] (spVecs2 K X) := by
  refine T.vectors_of.F.ok sc_vectors_of (fun vs H Q E h => ?_) (fun cdv A outer s H vs Q E hr h => ?_)
  · obtain ⟨_, _, _, _, _, _, _, rfl, _⟩ := h
    rfl
  obtain ⟨kv, x, y, p, kp, us, qs, rfl, rfl, hkp, hx, hy, hp, hus, hl, q⟩ := h
  have nd := sc_vectors_of.nd
  refine ⟨_, (pss_cons (ps_set (i := 2) nd rfl (Or.inl rfl) (pe_lst pa_nil))
  (pss_cons (ps_set (i := 3) nd rfl (Or.inl rfl) (pe_lst (pa_cons (pe_tup (pa_cons (pv 0) (pa_cons (pv 1) pa_nil))) pa_nil)))
  (pss_cons (ps_while PassesOwn.never (pt_truth (pv 3) (by intro _; rfl)) (pss_cons (ps_asg (pe_bm0 PySem.F.plainAttrs_list PySem.F.slot_list_pop PySem.F.type_list_pop mt_pop (pv 3)) (pg_tup rfl (pgs_cons (pg_name (i := 4) nd rfl (Or.inl rfl)) (pgs_cons (pg_name (i := 5) nd rfl (Or.inl rfl)) pgs_nil))))
  (pss_one (MX.ps_match (pe_ix ix_tup (pv 4) pe_int (fun _ _ => rfl)) (MX.pmc_tx (cs := ["num"]) rfl (pss_one (ps_expr (pe_bm PySem.F.plainAttrs_list PySem.F.slot_list_append PySem.F.type_list_append mt_append (pv 2) (pa_cons (pe_callTy call_list_of (by rfl) T.list (by decide +kernel) (pa_cons (pv 5) pa_nil)) pa_nil)))) (MX.pmc_tx (cs := ["pair"]) rfl (pss_cons (ps_expr (pe_bm PySem.F.plainAttrs_list PySem.F.slot_list_append PySem.F.type_list_append mt_append (pv 3) (pa_cons (pe_tup (pa_cons (pe_ix ix_tup (pv 4) pe_int (fun _ _ => rfl)) (pa_cons (pe_lc (own := [("_", 7), ("second", 8)]) (tt := tYes) rfl nd (pi_list (pv 5)) (blkOk_by (N := ["kind", "values", "vectors", "waiting", "part", "lanes", "row", "_", "second", "first", "value"]) (sc := defScope s_vectors_of) (by decide +kernel)) (fun _ _ _ _ _ => (pg_tupK (K := K) (n := 2) rfl rfl (pgs_cons (pg_name (i := 7) nd rfl (Or.inl rfl)) (pgs_cons (pg_name (i := 8) nd rfl (Or.inl rfl)) pgs_nil)))) (fun _ _ _ _ _ => pts_nil) (fun _ _ _ _ _ => (pv 8))) pa_nil))) pa_nil)))
  (pss_one (ps_expr (pe_bm PySem.F.plainAttrs_list PySem.F.slot_list_append PySem.F.type_list_append mt_append (pv 3) (pa_cons (pe_tup (pa_cons (pe_ix ix_tup (pv 4) pe_int (fun _ _ => rfl)) (pa_cons (pe_lc (own := [("first", 9), ("_", 7)]) (tt := tYes) rfl nd (pi_list (pv 5)) (blkOk_by (N := ["kind", "values", "vectors", "waiting", "part", "lanes", "row", "_", "second", "first", "value"]) (sc := defScope s_vectors_of) (by decide +kernel)) (fun _ _ _ _ _ => (pg_tupK (K := K) (n := 2) rfl rfl (pgs_cons (pg_name (i := 9) nd rfl (Or.inl rfl)) (pgs_cons (pg_name (i := 7) nd rfl (Or.inl rfl)) pgs_nil)))) (fun _ _ _ _ _ => pts_nil) (fun _ _ _ _ _ => (pv 9))) pa_nil))) pa_nil))))) (MX.pmc_any (pss_cons (ps_expr (pe_bm PySem.F.plainAttrs_list PySem.F.slot_list_append PySem.F.type_list_append mt_append (pv 2) (pa_cons (pe_lc (own := [("row", 6)]) (g := gName 6) (tt := tYes) rfl nd (pi_list (pv 5)) (blkOk_by (N := ["kind", "values", "vectors", "waiting", "part", "lanes", "row", "_", "second", "first", "value"]) (sc := defScope s_vectors_of) (by decide +kernel)) (fun _ _ _ _ _ => (pg_name (i := 6) nd rfl (Or.inl rfl))) (fun _ _ _ _ _ => pts_nil) (fun _ _ _ _ _ => (pe_callB (call_lenK (K := K) rfl) (by rfl) T.len PySem.boot_len (pa_cons (pv 6) pa_nil)))) pa_nil)))
  (pss_one (ps_expr (pe_bm PySem.F.plainAttrs_list PySem.F.slot_list_append PySem.F.type_list_append mt_append (pv 3) (pa_cons (pe_tup (pa_cons (pe_ix ix_tup (pv 4) pe_int (fun _ _ => rfl)) (pa_cons (pe_lc2 (own := [("row", 6), ("value", 10)]) (vs1 := [10]) (g := gName 6) (tt := tYes) (g1 := gName 10) (tt1 := tYes) rfl nd (pi_list (pv 5)) (blkOk_by (N := ["kind", "values", "vectors", "waiting", "part", "lanes", "row", "_", "second", "first", "value"]) (sc := defScope s_vectors_of) (by decide +kernel)) (by decide) (fun _ _ _ _ _ => (pg_name (i := 6) nd rfl (Or.inl rfl))) (fun _ _ _ _ _ => pts_nil) (fun _ _ _ _ _ => (pi_listK (K := K) rfl (pv 6))) (fun _ _ _ _ _ => (pg_name (i := 10) nd rfl (Or.inl rfl))) (fun _ _ _ _ _ => pts_nil) (fun _ _ _ _ _ => (pv 10))) pa_nil))) pa_nil))))))))))))
  (pss_one (ps_ret (pv 2)))))), ?_⟩
  refine ⟨(by show 0 ≤ sizeLine; decide), fun D hD => ?_⟩
  have s1 := same_new hD (.lst [])
  refine ⟨_, rfl, _, rfl, (by show 2 ≤ sizeLine; decide), fun t0 ht0 => ⟨(by show 1 ≤ sizeLine; decide), fun W hW => ?_⟩⟩
  have s2 := same_new ht0 (.tup [.ref kp, .ref p])
  have s3 := same_new hW (.lst [V.ref t0])
  have s03 := (s1.trans s2).trans s3
  have neDW : D ≠ W := ne_of_none (s2 _ _ (upd_same (H := H) (a := D) (o := .lst []))) hW
  have hW0 : H W = none := some_free0 (s1.trans s2) hW
  have nHD : ∀ {z : Addr} {o : HO}, H z = some o → z ≠ D := fun {z o} e => ne_of_none e hD
  have nHW : ∀ {z : Addr} {o : HO}, H z = some o → z ≠ W := fun {z o} e => ne_of_none e hW0
  refine ⟨fun n σ H' => ∃ (x4 x5 : Option V), σ = [some (.ref kp), some (.ref p), some (.ref D), some (.ref W), x4, x5, none, none, none, none, none] ∧ Turn H (.ref kp) p D W x y us qs n H', ⟨3, none, none, rfl, s03, neDW, .inl ⟨rfl, t0, upd_same, s3 _ _ upd_same, s3 _ _ (s2 _ _ upd_same)⟩⟩, ?_⟩
  rintro n σ H' ⟨x4, x5, rfl, sm, _, hT⟩
  rcases hT with ⟨rfl, t, hW', ht, hD'⟩ | ⟨rfl, t2, t1, L2_, L1, hW', ht2, ht1, hL2, hL1, hD', m1, m2, m3, m4⟩ | ⟨rfl, t2, L2_, A1, hW', ht2, hL2, hD', hA1, m1, m2, m3, m4⟩ | ⟨rfl, A1, A2, hW', hD', hA1, hA2⟩
  · refine ⟨_, rfl, _, .inl ⟨_, SqL.of hW', rfl⟩, ?_⟩
    refine ifT rfl ?_
    refine ⟨fun σ2 H2 => ∃ (x4 x5 : Option V), σ2 = [some (.ref kp), some (.ref p), some (.ref D), some (.ref W), x4, x5, none, none, none, none, none] ∧ Turn H (.ref kp) p D W x y us qs 2 H2, fun σ2 H2 ⟨a1, a2, e1, h⟩ => ⟨2, by decide, a1, a2, e1, h⟩, ?_⟩
    refine ⟨_, rfl, .inl ⟨rfl, _, SqL.of hW'⟩, W, _, .ref t, rfl, rfl, hW', rfl, ?_⟩
    obtain ⟨H2, e2⟩ : ∃ H2, upd H' W (.lst ([V.ref t].dropLast)) = H2 := ⟨_, rfl⟩
    rw [e2]
    have tW : t ≠ W := fun z => by rw [z, hW'] at ht; cases ht
    have hW2 : H2 W = some (.lst []) := by rw [← e2]; exact upd_same
    have ht2 : H2 t = some (.tup [.ref kp, .ref p]) := by rw [← e2, upd_ne tW]; exact ht
    have hD2 : H2 D = some (.lst []) := by rw [← e2, upd_ne neDW]; exact hD'
    have sm2 : Same H H2 := fun z o e => by rw [← e2, upd_ne (nHW e)]; exact sm _ _ e
    clear e2
    refine ⟨t, _, rfl, .inl (.inl ht2), rfl, _, _, rfl, _, _, rfl, rfl, ?_⟩
    refine ⟨_, rfl, kp, _, _, _, rfl, rfl, .inl (.inl (sm2 _ _ hkp)), atI_nat (j := 0) rfl, "pair", rfl, ?_⟩
    refine ifN (by decide +kernel) ?_
    refine ⟨"pair", rfl, ?_⟩
    refine ifY (by decide +kernel) ?_
    refine ⟨_, rfl, .inl ⟨rfl, _, SqL.of hW2⟩, _, rfl, kp, _, _, _, rfl, rfl, .inl (.inl (sm2 _ _ hkp)), atI_nat (j := 2) rfl, _, rfl, p, rfl, ⟨_, SqL.of (sm2 _ _ hp)⟩, fun L2_ nL2_ => lc_it (walk_list (K := K) (a := p) (xs := us)) (fun i HX => Same H2 HX ∧ HX L2_ = some (.lst (iv ((qs.map (·.2)).take i)))) ⟨same_new nL2_ _, upd_same⟩ (fun i HX _ h => SqL.of (h.1 _ _ (sm2 _ _ hp))) ?_ ?_⟩
    · rintro i v HX HY hi ⟨sx, hX⟩ ⟨rfl, hv⟩
      obtain ⟨tp, qq, eq, rfl, htp⟩ := hus.get hv
      refine ⟨tp, _, rfl, .inl (.inl (sx _ _ (sm2 _ _ htp))), rfl, _, _, rfl, _, _, rfl, rfl, rfl, _, rfl, tick sx nL2_ hX (fun _ _ e => e) ?_ ?_⟩
      · rw [List.take_add_one, List.getElem?_map, eq]; simp [iv]
      · rw [iv_len, List.length_take, List.length_map]; unfold NN; omega
    rintro H3 ⟨sH3, hL2_⟩
    rw [hus.len, List.take_of_length_le (by rw [List.length_map]; exact Nat.le_refl _)] at hL2_
    refine ⟨(by show 2 ≤ sizeLine; decide), fun t2 nt2 => ?_⟩
    have s4 := same_new nt2 (.tup [y, V.ref L2_])
    have hW4 := s4 _ _ (sH3 _ _ hW2)
    refine ⟨W, _, _, rfl, rfl, hW4, by show 0 < sizeLine; decide, ?_⟩
    obtain ⟨H5, e5⟩ : ∃ H5, upd (upd H3 t2 (.tup [y, V.ref L2_])) W (.lst ([] ++ [V.ref t2])) = H5 := ⟨_, rfl⟩
    rw [e5]
    have t2W : t2 ≠ W := fun z => by rw [z, sH3 _ _ hW2] at nt2; cases nt2
    have L2W : L2_ ≠ W := fun z => by rw [z, hW2] at nL2_; cases nL2_
    have L2D : L2_ ≠ D := fun z => by rw [z, hD2] at nL2_; cases nL2_
    have hW5 : H5 W = some (.lst [.ref t2]) := by rw [← e5]; exact upd_same
    have k5 : ∀ z o, z ≠ W → H2 z = some o → H5 z = some o := fun z o n e => by rw [← e5, upd_ne n]; exact s4 _ _ (sH3 _ _ e)
    have ht25 : H5 t2 = some (.tup [y, .ref L2_]) := by rw [← e5, upd_ne t2W]; exact upd_same
    have hL25 : H5 L2_ = some (.lst (iv (qs.map (·.2)))) := by rw [← e5, upd_ne L2W]; exact s4 _ _ hL2_
    clear e5
    have sm5 : Same H H5 := fun z o e => k5 _ _ (nHW e) (sm2 _ _ e)
    have hD5 := k5 _ _ neDW hD2
    refine ⟨_, rfl, .inl ⟨rfl, _, SqL.of hW5⟩, _, rfl, kp, _, _, _, rfl, rfl, .inl (.inl (sm5 _ _ hkp)), atI_nat (j := 1) rfl, _, rfl, p, rfl, ⟨_, SqL.of (sm5 _ _ hp)⟩, fun L1 nL1 => lc_it (walk_list (K := K) (a := p) (xs := us)) (fun i HX => Same H5 HX ∧ HX L1 = some (.lst (iv ((qs.map (·.1)).take i)))) ⟨same_new nL1 _, upd_same⟩ (fun i HX _ h => SqL.of (h.1 _ _ (sm5 _ _ hp))) ?_ ?_⟩
    · rintro i v HX HY hi ⟨sx, hX⟩ ⟨rfl, hv⟩
      obtain ⟨tp, qq, eq, rfl, htp⟩ := hus.get hv
      refine ⟨tp, _, rfl, .inl (.inl (sx _ _ (sm5 _ _ htp))), rfl, _, _, rfl, _, _, rfl, rfl, rfl, _, rfl, tick sx nL1 hX (fun _ _ e => e) ?_ ?_⟩
      · rw [List.take_add_one, List.getElem?_map, eq]; simp [iv]
      · rw [iv_len, List.length_take, List.length_map]; unfold NN; omega
    rintro H6 ⟨sH6, hL1⟩
    rw [hus.len, List.take_of_length_le (by rw [List.length_map]; exact Nat.le_refl _)] at hL1
    refine ⟨(by show 2 ≤ sizeLine; decide), fun t1 nt1 => ?_⟩
    have s7 := same_new nt1 (.tup [x, V.ref L1])
    have hW7 := s7 _ _ (sH6 _ _ hW5)
    have t1W : t1 ≠ W := fun z => by rw [z, sH6 _ _ hW5] at nt1; cases nt1
    have L1W : L1 ≠ W := fun z => by rw [z, hW5] at nL1; cases nL1
    have L1D : L1 ≠ D := fun z => by rw [z, hD5] at nL1; cases nL1
    refine ⟨W, _, _, rfl, rfl, hW7, by show 1 < sizeLine; decide, ?_⟩
    have k8 : ∀ z o, z ≠ W → H5 z = some o → (upd (upd H6 t1 (.tup [x, V.ref L1])) W (.lst ([V.ref t2] ++ [V.ref t1]))) z = some o := fun z o n e => by rw [upd_ne n]; exact s7 _ _ (sH6 _ _ e)
    refine ⟨_, _, rfl, fun z o e => k8 _ _ (nHW e) (sm5 _ _ e), neDW, .inr (.inl ⟨rfl, t2, t1, L2_, L1, upd_same, k8 _ _ t2W ht25, ?_, k8 _ _ L2W hL25, ?_, k8 _ _ neDW hD5, L2W, L2D, L1W, L1D⟩)⟩
    · rw [upd_ne t1W]; exact upd_same
    · rw [upd_ne L1W]; exact s7 _ _ hL1
  · obtain ⟨xa, rfl, hxa, _⟩ := hx
    refine ⟨_, rfl, _, .inl ⟨_, SqL.of hW', rfl⟩, ?_⟩
    refine ifT rfl ?_
    refine ⟨fun σ2 H2 => ∃ (x4 x5 : Option V), σ2 = [some (.ref kp), some (.ref p), some (.ref D), some (.ref W), x4, x5, none, none, none, none, none] ∧ Turn H (.ref kp) p D W (.ref xa) y us qs 1 H2, fun σ2 H2 ⟨a1, a2, e1, h⟩ => ⟨1, by decide, a1, a2, e1, h⟩, ?_⟩
    refine ⟨_, rfl, .inl ⟨rfl, _, SqL.of hW'⟩, W, _, .ref t1, rfl, rfl, hW', rfl, ?_⟩
    obtain ⟨H2, e2⟩ : ∃ H2, upd H' W (.lst ([V.ref t2, V.ref t1].dropLast)) = H2 := ⟨_, rfl⟩
    rw [e2]
    have hW2 : H2 W = some (.lst [.ref t2]) := by rw [← e2]; exact upd_same
    have k2 : ∀ z o, z ≠ W → H' z = some o → H2 z = some o := fun z o n e => by rw [← e2, upd_ne n]; exact e
    have sm2 : Same H H2 := fun z o e => k2 _ _ (nHW e) (sm _ _ e)
    clear e2
    have tW : t1 ≠ W := fun z => by rw [z, hW'] at ht1; cases ht1
    have hLL := k2 _ _ m3 hL1
    have hD2 := k2 _ _ neDW hD'
    refine ⟨t1, _, rfl, .inl (.inl (k2 _ _ tW ht1)), rfl, _, _, rfl, _, _, rfl, rfl, ?_⟩
    refine ⟨_, rfl, xa, _, _, _, rfl, rfl, .inl (.inl (sm2 _ _ hxa)), atI_nat (j := 0) rfl, "num", rfl, ?_⟩
    refine ifY (by decide +kernel) ?_
    refine ⟨_, rfl, .inl ⟨rfl, _, SqL.of hD2⟩, _, rfl, L1, _, rfl, .inl (SqL.of hLL), fun A nA => ?_⟩
    have sA := same_new nA (.lst (iv (qs.map (·.1))))
    have AD : A ≠ D := fun z => by rw [z, hD2] at nA; cases nA
    have AW : A ≠ W := fun z => by rw [z, hW2] at nA; cases nA
    refine ⟨D, _, _, rfl, rfl, sA _ _ hD2, by show 0 < sizeLine; decide, ?_⟩
    have k8 : ∀ z o, z ≠ D → H2 z = some o → (upd (upd H2 A (.lst (iv (qs.map (·.1))))) D (.lst ([] ++ [V.ref A]))) z = some o := fun z o n e => by rw [upd_ne n]; exact sA _ _ e
    have hAA : (upd (upd H2 A (.lst (iv (qs.map (·.1))))) D (.lst ([] ++ [V.ref A]))) A = some (.lst (iv (qs.map (·.1)))) := by rw [upd_ne AD]; exact upd_same
    have t2W : t2 ≠ W := fun z => by rw [z, hW'] at ht2; cases ht2
    have t2D : t2 ≠ D := fun z => by rw [z, hD'] at ht2; cases ht2
    exact ⟨_, _, rfl, fun z o e => k8 _ _ (nHD e) (sm2 _ _ e), neDW, .inr (.inr (.inl ⟨rfl, t2, L2_, A, k8 _ _ neDW.symm hW2, k8 _ _ t2D (k2 _ _ t2W ht2), k8 _ _ m2 (k2 _ _ m1 hL2), upd_same, hAA, m1, m2, AW, AD⟩))⟩
  · obtain ⟨xa, rfl, hxa, _⟩ := hy
    refine ⟨_, rfl, _, .inl ⟨_, SqL.of hW', rfl⟩, ?_⟩
    refine ifT rfl ?_
    refine ⟨fun σ2 H2 => ∃ (x4 x5 : Option V), σ2 = [some (.ref kp), some (.ref p), some (.ref D), some (.ref W), x4, x5, none, none, none, none, none] ∧ Turn H (.ref kp) p D W x (.ref xa) us qs 0 H2, fun σ2 H2 ⟨a1, a2, e1, h⟩ => ⟨0, by decide, a1, a2, e1, h⟩, ?_⟩
    refine ⟨_, rfl, .inl ⟨rfl, _, SqL.of hW'⟩, W, _, .ref t2, rfl, rfl, hW', rfl, ?_⟩
    obtain ⟨H2, e2⟩ : ∃ H2, upd H' W (.lst ([V.ref t2].dropLast)) = H2 := ⟨_, rfl⟩
    rw [e2]
    have hW2 : H2 W = some (.lst []) := by rw [← e2]; exact upd_same
    have k2 : ∀ z o, z ≠ W → H' z = some o → H2 z = some o := fun z o n e => by rw [← e2, upd_ne n]; exact e
    have sm2 : Same H H2 := fun z o e => k2 _ _ (nHW e) (sm _ _ e)
    clear e2
    have tW : t2 ≠ W := fun z => by rw [z, hW'] at ht2; cases ht2
    have hLL := k2 _ _ m1 hL2
    have hD2 := k2 _ _ neDW hD'
    refine ⟨t2, _, rfl, .inl (.inl (k2 _ _ tW ht2)), rfl, _, _, rfl, _, _, rfl, rfl, ?_⟩
    refine ⟨_, rfl, xa, _, _, _, rfl, rfl, .inl (.inl (sm2 _ _ hxa)), atI_nat (j := 0) rfl, "num", rfl, ?_⟩
    refine ifY (by decide +kernel) ?_
    refine ⟨_, rfl, .inl ⟨rfl, _, SqL.of hD2⟩, _, rfl, L2_, _, rfl, .inl (SqL.of hLL), fun A nA => ?_⟩
    have sA := same_new nA (.lst (iv (qs.map (·.2))))
    have AD : A ≠ D := fun z => by rw [z, hD2] at nA; cases nA
    have AW : A ≠ W := fun z => by rw [z, hW2] at nA; cases nA
    refine ⟨D, _, _, rfl, rfl, sA _ _ hD2, by show 1 < sizeLine; decide, ?_⟩
    have k8 : ∀ z o, z ≠ D → H2 z = some o → (upd (upd H2 A (.lst (iv (qs.map (·.2))))) D (.lst ([V.ref A1] ++ [V.ref A]))) z = some o := fun z o n e => by rw [upd_ne n]; exact sA _ _ e
    have hAA : (upd (upd H2 A (.lst (iv (qs.map (·.2))))) D (.lst ([V.ref A1] ++ [V.ref A]))) A = some (.lst (iv (qs.map (·.2)))) := by rw [upd_ne AD]; exact upd_same
    exact ⟨_, _, rfl, fun z o e => k8 _ _ (nHD e) (sm2 _ _ e), neDW, .inr (.inr (.inr ⟨rfl, A1, A, k8 _ _ neDW.symm hW2, upd_same, k8 _ _ m4 (k2 _ _ m3 hA1), hAA⟩))⟩
  · refine ⟨_, rfl, _, .inl ⟨_, SqL.of hW', rfl⟩, ?_⟩
    refine ifF rfl ?_
    exact ⟨_, rfl, q H' D [A1, A2] sm hD hD' ⟨hA1, hA2, trivial⟩⟩
end
end K11

namespace K11
open PySem PySem.Spec PyProof.Rows L2
section
variable {P : Program} {w : World} {K : PySem.W.Frag} {mg : Str → Option Value} {base : Heap} {a : Ad}
def spForms1 (X : List Addr) : Sp := fun vs H Q _ => ∃ (xa : Addr), vs = [.ref xa] ∧ H xa = some (.tup [.str "num"]) ∧ ∀ (H' : Hp) (q : Addr), Same H H' → H q = none → H' q = some (.lst [.str "num"]) → Q (.ref q) H'
theorem ok_forms_of (T : Txt w K mg a) (X : List Addr) : FnOk P w K mg base CX0 1 a.forms_of.1 a.forms_of.2 ["kind"] (spForms1 X) := by
  refine T.forms_of.F.ok sc_forms_of (fun vs H Q E h => ?_) (fun cdv A outer s H vs Q E hr h => ?_)
  · obtain ⟨_, rfl, _⟩ := h
    rfl
  obtain ⟨xa, rfl, hxa, q⟩ := h
  have nd := sc_forms_of.nd
  refine ⟨_, (pss_cons (ps_set (i := 1) nd rfl (Or.inl rfl) (pe_lst pa_nil))
  (pss_cons (ps_set (i := 2) nd rfl (Or.inl rfl) (pe_lst (pa_cons (pv 0) pa_nil)))
  (pss_cons (ps_while PassesOwn.never (pt_truth (pv 2) (by intro _; rfl)) (pss_cons (ps_set (i := 3) nd rfl (Or.inl rfl) (pe_bm0 PySem.F.plainAttrs_list PySem.F.slot_list_pop PySem.F.type_list_pop mt_pop (pv 2)))
  (pss_cons (ps_expr (pe_bm PySem.F.plainAttrs_list PySem.F.slot_list_append PySem.F.type_list_append mt_append (pv 1) (pa_cons (pe_ix ix_tup (pv 3) pe_int (fun _ _ => rfl)) pa_nil)))
  (pss_one (ps_expr (pe_bm PySem.F.plainAttrs_list PySem.F.slot_list_extend PySem.F.type_list_extend (ET.mt_extT) (pv 2) (pa_cons (RT.pe_tail (pv 3)) pa_nil)))))))
  (pss_one (ps_ret (pv 1)))))), ?_⟩
  refine ⟨(by show 0 ≤ sizeLine; decide), fun fo hfo => ?_⟩
  have s1 := same_new hfo (.lst [])
  refine ⟨_, rfl, (by show 1 ≤ sizeLine; decide), fun wt hwt => ?_⟩
  have s2 := same_new hwt (.lst [V.ref xa])
  have ne1 : fo ≠ wt := ne_of_none (upd_same (H := H) (a := fo) (o := .lst [])) hwt
  have wt0 : H wt = none := some_free0 s1 hwt
  refine ⟨fun n σ H' => ∃ x3 : Option V, σ = [some (.ref xa), some (.ref fo), some (.ref wt), x3] ∧ Same H H' ∧ ((n = 1 ∧ H' wt = some (.lst [.ref xa]) ∧ H' fo = some (.lst [])) ∨ (n = 0 ∧ H' wt = some (.lst []) ∧ H' fo = some (.lst [.str "num"]))), ⟨1, none, rfl, s1.trans s2, .inl ⟨rfl, upd_same, s2 _ _ upd_same⟩⟩, ?_⟩
  rintro n σ H' ⟨x3, rfl, sm, ⟨rfl, hw, hf⟩ | ⟨rfl, hw, hf⟩⟩
  · refine ⟨_, rfl, _, .inl ⟨_, SqL.of hw, rfl⟩, ?_⟩
    refine ifT rfl ?_
    refine ⟨fun σ2 H2 => ∃ x3 : Option V, σ2 = [some (.ref xa), some (.ref fo), some (.ref wt), x3] ∧ Same H H2 ∧ H2 wt = some (.lst []) ∧ H2 fo = some (.lst [.str "num"]), fun σ2 H2 ⟨a1, e1, h1, h2⟩ => ⟨0, by decide, a1, e1, h1, .inr ⟨rfl, h2⟩⟩, ?_⟩
    refine ⟨_, rfl, .inl ⟨rfl, _, SqL.of hw⟩, wt, _, .ref xa, rfl, rfl, hw, rfl, ?_⟩
    obtain ⟨H2, e2⟩ : ∃ H2, upd H' wt (.lst ([V.ref xa].dropLast)) = H2 := ⟨_, rfl⟩
    rw [e2]
    have hw2 : H2 wt = some (.lst []) := by rw [← e2]; exact upd_same
    have hf2 : H2 fo = some (.lst []) := by rw [← e2, upd_ne ne1]; exact hf
    have sm2 : Same H H2 := fun z o e => by rw [← e2, upd_ne (ne_of_none e wt0)]; exact sm _ _ e
    clear e2
    refine ⟨_, rfl, .inl ⟨rfl, _, SqL.of hf2⟩, _, rfl, xa, _, _, _, rfl, rfl, .inl (.inl (sm2 _ _ hxa)), atI_nat (j := 0) rfl, fo, _, _, rfl, rfl, hf2, by show 0 < sizeLine; decide, ?_⟩
    obtain ⟨H3, e3⟩ : ∃ H3, upd H2 fo (.lst ([] ++ [V.str "num"])) = H3 := ⟨_, rfl⟩
    rw [e3]
    have hf3 : H3 fo = some (.lst [.str "num"]) := by rw [← e3]; exact upd_same
    have hw3 : H3 wt = some (.lst []) := by rw [← e3, upd_ne ne1.symm]; exact hw2
    have sm3 : Same H H3 := fun z o e => by rw [← e3, upd_ne (ne_of_none e hfo)]; exact sm2 _ _ e
    clear e3
    refine ⟨_, rfl, .inl ⟨rfl, _, SqL.of hw3⟩, _, rfl, xa, _, rfl, .inl (.inl (sm3 _ _ hxa)), by rw [List.length_singleton]; omega, by rw [List.length_singleton]; omega, fun d hd => ?_⟩
    have s4 := same_new hd (.tup (List.drop 1 [V.str "num"]).reverse)
    refine ⟨wt, d, [], [], rfl, rfl, s4 _ _ hw3, .inl (.inl upd_same), by decide, ?_⟩
    refine ⟨_, rfl, fun z o e => ?_, upd_same, ?_⟩
    · rw [upd_ne (ne_of_none e wt0)]; exact s4 _ _ (sm3 _ _ e)
    · rw [upd_ne ne1]; exact s4 _ _ hf3
  · refine ⟨_, rfl, _, .inl ⟨_, SqL.of hw, rfl⟩, ?_⟩
    refine ifF rfl ?_
    exact ⟨_, rfl, q H' fo sm hfo hf⟩
end
end K11

namespace K11
open PySem PySem.Spec PyProof.Rows L2
section
variable {P : Program} {w : World} {K : PySem.W.Frag} {mg : Str → Option Value} {base : Heap} {a : Ad}
def spBack1 : Sp := fun vs H Q _ => ∃ (xa r b : Addr) (xs : List Int), vs = [.ref xa, .ref r] ∧ H xa = some (.tup [.str "num"]) ∧ H r = some (.lst [.ref b]) ∧ H b = some (.lst (iv xs)) ∧ ∀ (H' : Hp) (q : Addr), Same H H' → H' q = some (.lst (iv xs)) → Q (.ref q) H'
theorem ok_values_of (T : Txt w K mg a) : FnOk P w K mg base CX0 2 a.values_of.1 a.values_of.2 ["kind", "vectors"] spBack1 := by
  refine T.values_of.F.ok sc_values_of (fun vs H Q E h => ?_) (fun cdv A outer s H vs Q E hr h => ?_)
  · obtain ⟨_, _, _, _, rfl, _⟩ := h
    rfl
  obtain ⟨xa, r0, b, xs, rfl, hxa, hr0, hb, q⟩ := h
  have nd := sc_values_of.nd
  have G_forms_of := ok_forms_of (P := P) (w := w) (base := base) T []
  have G_cut : FnOk P w K mg base CX0 0 a.cut.1 a.cut.2 ["values", "lengths"] spNo := ok_no
  refine ⟨_, (pss_cons (ps_set (i := 2) nd rfl (Or.inl rfl) (pe_callTy call_list_of (by rfl) T.list (by decide +kernel) (pa_cons (pv 1) pa_nil)))
  (pss_cons (ps_set (i := 3) nd rfl (Or.inl rfl) (pe_lst pa_nil))
  (pss_cons (ps_for PassesOwn.never rfl (pi_reversed (by rfl) T.reversed (pa_cons (pe_call G_forms_of (hr.mono (by omega)) rfl T.forms_of.g T.forms_of.F.kp T.forms_of.b .nil pass0 (pa_cons (pv 0) pa_nil)) pa_nil)) (pg_name (i := 4) nd rfl (Or.inl rfl)) (pss_one (MX.ps_match (pv 4) (MX.pmc_tx (cs := ["num"]) rfl (pss_one (ps_expr (pe_bm PySem.F.plainAttrs_list PySem.F.slot_list_append PySem.F.type_list_append mt_append (pv 3) (pa_cons (pe_callTy call_list_of (by rfl) T.list (by decide +kernel) (pa_cons (pe_bm0 PySem.F.plainAttrs_list PySem.F.slot_list_pop PySem.F.type_list_pop mt_pop (pv 2)) pa_nil)) pa_nil)))) (MX.pmc_tx (cs := ["pair"]) rfl (pss_cons (ps_set (i := 5) nd rfl (Or.inl rfl) (pe_bm0 PySem.F.plainAttrs_list PySem.F.slot_list_pop PySem.F.type_list_pop mt_pop (pv 3)))
  (pss_cons (ps_set (i := 6) nd rfl (Or.inl rfl) (pe_bm0 PySem.F.plainAttrs_list PySem.F.slot_list_pop PySem.F.type_list_pop mt_pop (pv 3)))
  (pss_one (ps_expr (pe_bm PySem.F.plainAttrs_list PySem.F.slot_list_append PySem.F.type_list_append mt_append (pv 3) (pa_cons (LZ.pe_listzip rfl rfl T.list rfl T.zip (pa_cons (pv 5) (pa_cons (pv 6) pa_nil))) pa_nil)))))) (MX.pmc_any (pss_one (ps_expr (pe_bm PySem.F.plainAttrs_list PySem.F.slot_list_append PySem.F.type_list_append mt_append (pv 3) (pa_cons (pe_call G_cut (hr.mono (by omega)) rfl T.cut.g T.cut.F.kp T.cut.b .nil pass0 (pa_cons (pe_bm0 PySem.F.plainAttrs_list PySem.F.slot_list_pop PySem.F.type_list_pop mt_pop (pv 3)) (pa_cons (pe_bm0 PySem.F.plainAttrs_list PySem.F.slot_list_pop PySem.F.type_list_pop mt_pop (pv 2)) pa_nil))) pa_nil))))))))))
  (pss_one (ps_ret (pe_ix ix_list (pv 3) pe_int (fun _ _ => rfl))))))), ?_⟩
  refine ⟨_, rfl, r0, _, rfl, .inl (SqL.of hr0), fun R hR => ?_⟩
  have s1 := same_new hR (.lst [V.ref b])
  refine ⟨(by show 0 ≤ sizeLine; decide), fun Dn hDn => ?_⟩
  have s2 := same_new hDn (.lst [])
  have s02 := s1.trans s2
  have R2 := s2 _ _ (upd_same (H := H) (a := R) (o := .lst [V.ref b]))
  have D2 := upd_same (H := upd H R (.lst [V.ref b])) (a := Dn) (o := .lst [])
  have nRD : R ≠ Dn := ne_of_none (upd_same (H := H) (a := R) (o := .lst [V.ref b])) hDn
  have Dn0 : H Dn = none := some_free0 s1 hDn
  refine ⟨_, rfl, xa, rfl, s02 _ _ hxa, fun H3 fo s3 hfo0 hfo => ?_⟩
  have s03 := s02.trans s3
  have R3 := s3 _ _ R2
  have D3 := s3 _ _ D2
  have nfR : fo ≠ R := fun z => by rw [z, R2] at hfo0; cases hfo0
  have nfD : fo ≠ Dn := fun z => by rw [z, D2] at hfo0; cases hfo0
  refine ⟨fo, _, rfl, SqL.of hfo, for_it walk_rev (fun i σ H4 => ∃ x4 : Option V, σ = [some (.ref xa), some (.ref r0), some (.ref R), some (.ref Dn), x4, none, none] ∧ Same H H4 ∧ H4 fo = some (.lst [.str "num"]) ∧ ((i = 0 ∧ H4 R = some (.lst [.ref b]) ∧ H4 Dn = some (.lst [])) ∨ (i = 1 ∧ ∃ l, H4 Dn = some (.lst [.ref l]) ∧ H4 l = some (.lst (iv xs))))) ⟨none, rfl, s03, hfo, .inl ⟨rfl, R3, D3⟩⟩ (fun i σ H4 _ h => by obtain ⟨_, _, _, hf, _⟩ := h; exact SqL.of hf) ?_ ?_⟩
  · rintro i y σ H4o H4 hi ⟨x4, rfl, sm, hf, ⟨rfl, hR4, hD4⟩ | ⟨rfl, _⟩⟩ ⟨rfl, hy⟩
    · obtain rfl : V.str "num" = y := Option.some.inj hy
      refine ⟨_, rfl, "num", rfl, ?_⟩
      refine ifY (by decide +kernel) ?_
      refine ⟨_, rfl, .inl ⟨rfl, _, SqL.of hD4⟩, _, rfl, .inl ⟨rfl, _, SqL.of hR4⟩, R, _, .ref b, rfl, rfl, hR4, rfl, ?_⟩
      have hR0 : H R = none := by
        cases z : H R with
        | none => rfl
        | some o => rw [hR] at z; cases z
      have smR : ∀ o, Same H (upd H4 R o) := fun o z u e => by rw [upd_ne (ne_of_none e hR0)]; exact sm _ _ e
      have hDR : (upd H4 R (.lst ([V.ref b].dropLast))) Dn = some (.lst []) := by rw [upd_ne nRD.symm]; exact hD4
      have hfR : (upd H4 R (.lst ([V.ref b].dropLast))) fo = some (.lst [.str "num"]) := by rw [upd_ne nfR]; exact hf
      have hbR := smR (.lst ([V.ref b].dropLast)) _ _ hb
      have sR := smR (.lst ([V.ref b].dropLast))
      generalize (upd H4 R (.lst ([V.ref b].dropLast))) = H5 at hDR hfR hbR sR ⊢
      refine ⟨b, _, rfl, .inl (SqL.of hbR), fun l nl => ?_⟩
      have sl := same_new nl (.lst (iv xs))
      have lD : l ≠ Dn := fun z => by rw [z, hDR] at nl; cases nl
      refine ⟨Dn, _, _, rfl, rfl, sl _ _ hDR, by show 0 < sizeLine; decide, ?_⟩
      refine ⟨_, rfl, fun z o e => ?_, ?_, .inr ⟨rfl, l, upd_same, ?_⟩⟩
      · rw [upd_ne (ne_of_none e Dn0)]; exact sl _ _ (sR _ _ e)
      · rw [upd_ne nfD]; exact sl _ _ hfR
      · rw [upd_ne lD]; exact upd_same
    · exact absurd hi (by decide)
  · rintro σ H4 ⟨x4, rfl, sm, hf, ⟨h, _⟩ | ⟨_, l, hD4, hl⟩⟩
    · exact absurd h (by decide)
    · exact ⟨_, rfl, Dn, _, _, _, rfl, rfl, SqL.of hD4, atI_nat (j := 0) rfl, q H4 l sm hl⟩
end
end K11

namespace K11
open PySem PySem.Spec PyProof.Rows L2
def NamAt (H : Hp) (nm : Str) (v : V) : Prop := ∃ t x r, v = .ref t ∧ H t = some (.tup (x :: .str nm :: r))
section
variable {P : Program} {w : World} {K : PySem.W.Frag} {mg : Str → Option Value} {base : Heap} {b : Ad} {sa : SAd} {a : KAd}
def spMInit (C : Addr) : Sp := fun vs H Q _ => ∃ (m dx bl pd : Addr) (v1 v2 : V), vs = [.ref m, .ref bl, .ref pd] ∧ H m = some (.ins C dx []) ∧ H bl = some (.lst [v1, v2]) ∧ NamAt H "main" v1 ∧ NamAt H "other" v2 ∧
  ∀ (H' : Hp) (bd : Addr) (kvs : List (L2.Key × V)), (∀ z o, z ≠ m → H z = some o → H' z = some o) → H bd = none → H' bd = some (.dK kvs) → valV kvs (.inr "main") = some v1 → valV kvs (.inr "other") = some v2 → MachAt C H' m bd pd 0 0 0 → Q .non H'
theorem ok_minit (M : MTxt w K mg b sa a) : FnOk P w K mg base CX0 1 a.init.1 a.init.2 ["self", "blocks", "plans"] (spMInit a.C) := by
  refine M.iF.ok sc_Machine___init__ (fun vs H Q E h => ?_) (fun cdv A outer s H vs Q E hr h => ?_)
  · obtain ⟨_, _, _, _, _, _, rfl, _⟩ := h
    rfl
  obtain ⟨m, dx, bl, pd, v1, v2, rfl, hm, hbl, ⟨t1, x1, r1, rfl, ht1⟩, ⟨t2, x2, r2, rfl, ht2⟩, q⟩ := h
  have nd := sc_Machine___init__.nd
  refine ⟨_, (pss_cons (ps_fld (pv 0) (pe_dc (own := [("block", 3)]) (g := gName 3) (tt := tYes) rfl nd (pi_list (pv 1)) (blkOk_by (N := ["self", "blocks", "plans", "block"]) (sc := defScope s_Machine___init__) (by decide +kernel)) (fun _ _ _ _ _ => (pg_name (i := 3) nd rfl (Or.inl rfl))) (fun _ _ _ _ _ => pts_nil) (fun _ _ _ _ _ => (pe_ix (ix_tupK (K := K) rfl) (pv 3) pe_int (fun _ _ => rfl))) (fun _ _ _ _ _ => (pv 3))) rfl)
  (pss_cons (ps_fld (pv 0) (pv 2) rfl) (pss_cons (ps_fld (pv 0) pe_int rfl) (pss_cons (ps_fld (pv 0) pe_int rfl) (pss_one (ps_fld (pv 0) pe_int rfl)))))), ?_⟩
  refine ⟨_, rfl, bl, rfl, ⟨_, SqL.of hbl⟩, fun D nD => in_it (walk_list (K := K) (a := bl) (xs := [V.ref t1, V.ref t2])) (fun i H1 => Same H H1 ∧ ((i = 0 ∧ H1 D = some (.dK [])) ∨ (i = 1 ∧ H1 D = some (.dK (putK [] (.inr "main") (V.ref t1)))) ∨ (i = 2 ∧ H1 D = some (.dK (putK (putK [] (.inr "main") (V.ref t1)) (.inr "other") (V.ref t2)))))) ⟨same_new nD _, .inl ⟨rfl, upd_same⟩⟩ (fun i H1 _ h => SqL.of (h.1 _ _ hbl)) ?_ ?_⟩
  · rintro i x H1 H2 hi ⟨sm, hD⟩ ⟨rfl, hx⟩
    have stay : ∀ (kvs : List (L2.Key × V)) (H3 : Hp), Same H H3 → Same H (upd H3 D (.dK kvs)) := fun kvs H3 s z o e => by rw [upd_ne (ne_of_none e nD)]; exact s _ _ e
    rcases hD with ⟨rfl, hD⟩ | ⟨rfl, hD⟩ | ⟨rfl, _⟩
    · obtain rfl : V.ref t1 = x := Option.some.inj hx
      exact ⟨rfl, _, rfl, t1, _, _, _, rfl, rfl, .inl (.inl (sm _ _ ht1)), atI_nat (j := 1) rfl, _, rfl, [], .inr "main", rfl, hD, by decide, stay _ _ sm, .inr (.inl ⟨rfl, upd_same⟩)⟩
    · obtain rfl : V.ref t2 = x := Option.some.inj hx
      exact ⟨rfl, _, rfl, t2, _, _, _, rfl, rfl, .inl (.inl (sm _ _ ht2)), atI_nat (j := 1) rfl, _, rfl, _, .inr "other", rfl, hD, Nat.lt_of_le_of_lt put_len (by decide), stay _ _ sm, .inr (.inr ⟨rfl, upd_same⟩)⟩
    · exact absurd hi (by simp)
  rintro H1 ⟨sm, ⟨h, _⟩ | ⟨h, _⟩ | ⟨_, hD⟩⟩
  · cases h
  · cases h
  have nDm : D ≠ m := fun z => by rw [z, hm] at nD; cases nD
  refine ⟨_, rfl, m, a.C, dx, _, rfl, sm _ _ hm, M.cl, M.n_blocks, (by show 0 < 1000; decide), ?_⟩
  refine ⟨_, rfl, _, rfl, m, a.C, dx, _, rfl, upd_same, M.cl, M.n_plans, (by show 1 < 1000; decide), ?_⟩
  rw [upd_upd]
  refine ⟨_, rfl, m, a.C, dx, _, rfl, upd_same, M.cl, M.n_steps, (by show 2 < 1000; decide), ?_⟩
  rw [upd_upd]
  refine ⟨_, rfl, m, a.C, dx, _, rfl, upd_same, M.cl, M.n_touches, (by show 3 < 1000; decide), ?_⟩
  rw [upd_upd]
  refine ⟨_, rfl, m, a.C, dx, _, rfl, upd_same, M.cl, M.n_depth, (by show 4 < 1000; decide), ?_⟩
  rw [upd_upd]
  refine q _ D _ (fun z o n e => by rw [upd_ne n]; exact sm _ _ e) nD (by rw [upd_ne nDm]; exact hD) ?_ ?_ ⟨dx, upd_same⟩
  · rw [valV_put, if_neg (by decide +kernel), valV_put, if_pos rfl]
  · rw [valV_put, if_pos rfl]
end
end K11

namespace K11
open PySem PySem.Spec PyProof.Rows L2
def lanes (n : Nat) : List Int := (List.range n).map fun (k : Nat) => (k : Int)
section
variable {P : Program} {w : World} {K : PySem.W.Frag} {mg : Str → Option Value} {base : Heap} {b : Ad} {sa : SAd} {a : KAd}
def spRes (K : PySem.W.Frag) (CM : Addr) (spB : Sp) : Sp := fun vs H Q E => ∃ (m bd pd p kp xa : Addr) (x y v : V) (nm : Str) (kvs : List (L2.Key × V)) (us : List V) (qs : List (Int × Int)) (sN tN dN : Int) (rest : List V) (t : Addr), vs = [.ref m, .str nm, .ref p] ∧ MachAt CM H m bd pd sN tN dN ∧ H bd = some (.dK kvs) ∧ valV kvs (.inr nm) = some v ∧ v = .ref t ∧ (∃ v4 v5, H t = some (.tup [.str "block", .str nm, .ref kp, .ref xa, v4, v5])) ∧ H kp = some (.tup [.str "pair", x, y]) ∧ NumAt [] H x ∧ NumAt [] H y ∧ H xa = some (.tup [.str "num"]) ∧ H p = some (.lst us) ∧ PrsAt H us qs ∧ qs.length ≤ 900 ∧
  (qs = [] → ∀ (H' : Hp) (q : Addr), Same H H' → H' q = some (.lst []) → Q (.ref q) H') ∧
  (qs ≠ [] → ∀ (H1 : Hp) (r : Addr) (as : List Addr), Same H H1 → H1 r = some (.lst (as.map V.ref)) → VecsAt K H1 as [lanes qs.length, qs.map (·.1), qs.map (·.2)] → ∀ Qc : VK, (∀ z H2, (∃ (q bb : Addr) (out : List Int), z = .ref q ∧ Fr [m] H1 H2 ∧ H2 q = some (.lst [.ref bb]) ∧ H2 bb = some (.lst (iv out)) ∧ ∀ (H3 : Hp) (o : Addr), Same H2 H3 → H3 o = some (.lst (iv out)) → Q (.ref o) H3) → Qc z H2) → spB [.ref m, .str nm, .ref r] H1 Qc E)
theorem ok_results_for (M : MTxt w K mg b sa a) {spB : Sp} {l : Nat} (G_run_block : FnOk P w K mg base (L2.CX P w) l a.run_block.1 a.run_block.2 ["self", "name", "vectors"] spB) : FnOk P w K mg base (L2.CX P w) (max l 2 + 1) a.results_for.1 a.results_for.2 ["self", "name", "values"] (spRes K a.C spB) := by
  refine M.results_for.F.okX sc_Machine_results_for (fun vs H Q E h => ?_) (fun cdv A outer s H vs Q E hr h => ?_)
  · obtain ⟨_, _, _, _, _, _, _, _, _, _, _, _, _, _, _, _, _, _, rfl, _⟩ := h
    rfl
  obtain ⟨m, bd, pd, p, kp, xa, x, y, v, nm, kvs, us, qs, sN, tN, dN, rest, t, rfl, ⟨dxm, hm⟩, hbd, hkv, rfl, ⟨v4, v5, ht⟩, hkp, hx, hy, hxa, hp, hus, hl, q0, q1⟩ := h
  have nd := sc_Machine_results_for.nd
  have hu := hu_of hr
  have G_vectors_of := ok_vectors_of (P := P) (w := w) (base := base) M.S.T []
  have G_values_of := ok_values_of (P := P) (w := w) (base := base) M.S.T
  refine ⟨_, (pss_cons (ps_if (pt_not (pt_truth (pv 2) (by intro _; rfl))) (pss_one (ps_ret (pe_lst pa_nil))) pss_nil)
  (pss_cons (ps_asg (pe_dget hu (pe_fld (pv 0) rfl) (pv 1) (fun _ _ => rfl)) (pg_tup rfl (pgs_cons (pg_name (i := 3) nd rfl (Or.inl rfl)) (pgs_cons (pg_name (i := 3) nd rfl (Or.inl rfl)) (pgs_cons (pg_name (i := 4) nd rfl (Or.inl rfl)) (pgs_cons (pg_name (i := 5) nd rfl (Or.inl rfl)) (pgs_cons (pg_name (i := 3) nd rfl (Or.inl rfl)) (pgs_cons (pg_name (i := 3) nd rfl (Or.inl rfl)) pgs_nil))))))))
  (pss_cons (ps_set (i := 6) nd rfl (Or.inl rfl) (pe_listRg rfl (by rfl) M.S.T.list (prg_1 (by rfl) M.S.T.range (pe_callB call_len_seq (by rfl) M.S.T.len PySem.boot_len (pa_cons (pv 2) pa_nil)))))
  (pss_one (ps_ret (pe_call G_values_of (hr.mono (by omega)) rfl M.S.T.values_of.g M.S.T.values_of.F.kp M.S.T.values_of.b .nil pass0 (pa_cons (pv 5) (pa_cons (pe_meth (pv 0) M.cl M.run_block.m G_run_block (hr.mono (by omega)) M.run_block.b .nil (passes_call (takes_of rfl rfl rfl rfl) (fun _ _ _ _ h => h)) (pa_cons (pv 1) (pa_cons (pe_lst (pa_cons (pv 6) (StX.pa_star (pe_call G_vectors_of (hr.mono (by omega)) rfl M.S.T.vectors_of.g M.S.T.vectors_of.F.kp M.S.T.vectors_of.b .nil pass0 (pa_cons (pv 4) (pa_cons (pv 2) pa_nil))) pa_nil))) pa_nil))) pa_nil)))))))), ?_⟩
  have ul := hus.len
  refine ⟨_, rfl, _, .inl ⟨_, SqL.of hp, rfl⟩, ?_⟩
  by_cases c : qs = []
  · have ue : us = [] := by cases us with
      | nil => rfl
      | cons _ _ => rw [c] at ul; cases ul
    refine ifT (by rw [ue]; rfl) ?_
    exact ⟨(by show 0 ≤ sizeLine; decide), fun o no => q0 c _ o (same_new no _) upd_same⟩
  · have ue : us.isEmpty = false := by cases us with
      | nil => exact absurd (List.length_eq_zero_iff.mp ul.symm) c
      | cons _ _ => rfl
    refine ifF (by rw [ue]; rfl) ?_
    refine ⟨_, rfl, m, a.C, dxm, _, _, rfl, hm, M.cl, M.n_blocks, rfl, _, rfl, bd, .ref t, rfl, by rw [← hkv]; exact DGet.k (k := Sum.inr nm) hbd, ?_⟩
    refine ⟨t, _, rfl, .inl (.inl ht), rfl, _, _, rfl, _, _, rfl, _, _, rfl, _, _, rfl, _, _, rfl, _, _, rfl, rfl, ?_⟩
    refine ⟨_, rfl, p, _, rfl, .inl (SqL.of hp), _, rfl, ⟨by omega, by omega, by omega, by omega, by rw [ul]; exact Nat.le_trans (show _ ≤ 1000 by omega) (by decide)⟩, fun L nL => ?_⟩
    have s1 := same_new nL (.lst (rgV 0 (us.length : Int)))
    have hL : (upd H L (.lst (rgV 0 (us.length : Int)))) L = some (.lst (iv (lanes qs.length))) := by
      rw [upd_same, ul]
      unfold rgV lanes iv
      rw [List.map_map, show ((qs.length : Int) - 0).toNat = qs.length by omega]
      congr 3
      funext k
      show V.int (0 + (k : Int)) = V.int (k : Int)
      rw [Int.zero_add]
    generalize (upd H L (.lst (rgV 0 (us.length : Int)))) = H1 at s1 hL ⊢
    refine ⟨_, rfl, _, rfl, m, dxm, _, rfl, s1 _ _ hm, rfl, _, rfl, _, rfl, _, rfl, _, rfl, .ref kp, x, y, p, kp, us, qs, rfl, rfl, s1 _ _ hkp, hx.fr (Fr.same s1), hy.fr (Fr.same s1), s1 _ _ hp, hus.same s1, hl, fun H2 r as s2 nr hr2 hv2 => ?_⟩
    have al : as.length = 2 := hv2.len
    refine ⟨r, _, rfl, .inr (SqL.of hr2), by simp only [List.length_cons, List.length_append, List.length_map, al, List.length_nil]; show 3 ≤ sizeLine; decide, fun rr nrr => ?_⟩
    have s3 := same_new nrr (.lst (V.ref L :: (as.map V.ref ++ [])))
    have s02 := (s1.trans s2).trans s3
    refine q1 c _ rr (L :: as) s02 (by rw [upd_same, List.append_nil]; rfl) ⟨s3 _ _ (s2 _ _ hL), hv2.same s3⟩ _ fun z H4 hz => ?_
    obtain ⟨qq, bb, out, rfl, f4, hq4, hb4, fin⟩ := hz
    have nx : xa ∉ [m] := fun k => by rw [List.mem_singleton.mp k, hm] at hxa; cases hxa
    exact ⟨xa, qq, bb, out, rfl, f4 _ _ nx (s02 _ _ hxa), hq4, hb4, fun H5 o s5 ho => fin H5 o s5 ho⟩
end
end K11

namespace K11
open PySem PySem.Spec PyProof.Rows L2
/-! ### runs -/
theorem few_ins {x : In} (h : InKind x) : x.ins.length ≤ 3 := by cases h <;> simp
theorem ve_ins {n : Nat} {code : List In} {k : Nat} {x : In} {R : List (List Int)} (ok : Okc 3 code) (ex : code[k]? = some x) (g : WfR n code k R) : ∀ r ∈ x.ins, Ve n (R.getD r.toNat []) := fun r hr => g.sf r (ok.ins k x ex r hr)
theorem start_wf {n : Nat} {code : List In} {xss : List (List Int)} (h3 : xss.length = 3) (hv : ∀ v ∈ xss, Ve n v) : WfR n code 0 xss := by
  refine ⟨by rw [h3], fun r hr => ?_⟩
  have lt := hr.lt
  have e : xss[r.toNat]? = some (xss.getD r.toNat []) := by rw [List.getD_eq_getElem?_getD, List.getElem?_eq_getElem (by omega)]; rfl
  exact hv _ (List.mem_of_getElem? e)
theorem step_wf {n : Nat} {code : List In} {k : Nat} {x : In} {s s' : St3} {call : List (List Int) → Option (List Int × Int × Int)} (ok : Okc 3 code) (hn : n ≤ 100) (ex : code[k]? = some x) (g : WfR n code k s.1) (h : stepI call x s = some s') : WfR n code (k + 1) s'.1 := by
  obtain ⟨nc, pr, res, _, _, _, ho⟩ := exec_ok (R := s.1) (ok.kind x (List.mem_of_getElem? ex)) hn (ve_ins ok ex g)
  unfold stepI at h
  rw [if_neg nc] at h
  obtain ⟨out, eo, rfl⟩ := Option.map_eq_some_iff.mp h
  obtain ⟨h1, _, h3⟩ := ho out eo
  exact g.step ex h1 h3
theorem run_shift {call : List (List Int) → Option (List Int × Int × Int)} (a b : Int) : ∀ (code : List In) (R : List (List Int)) (s t : Int), runC call code (R, s + a, t + b) = (runC call code (R, s, t)).map fun r => (r.1, r.2.1 + a, r.2.2 + b)
  | [], _, _, _ => rfl
  | x :: r, R, s, t => by
    show (stepI call x (R, s + a, t + b)).bind (runC call r) = ((stepI call x (R, s, t)).bind (runC call r)).map _
    unfold stepI
    by_cases c : x.nm = "call"
    · rw [if_pos c, if_pos c]
      cases call (regs R x.ins) with
      | none => rfl
      | some o =>
        show runC call r (R ++ [o.1], s + a + 1 + o.2.1, t + b + o.2.2) = (runC call r (R ++ [o.1], s + 1 + o.2.1, t + o.2.2)).map _
        rw [← run_shift a b r, show s + a + 1 + o.2.1 = s + 1 + o.2.1 + a by omega, show t + b + o.2.2 = t + o.2.2 + b by omega]
    · rw [if_neg c, if_neg c]
      cases fI x (regs R x.ins) with
      | none => rfl
      | some o =>
        show runC call r (R ++ [o], s + a + 1, t + b + _) = (runC call r (R ++ [o], s + 1, t + _)).map _
        rw [← run_shift a b r, show s + a + 1 = s + 1 + a by omega]
        congr 3
        show t + b + (lens (regs R x.ins ++ [o])).sum = t + (lens (regs R x.ins ++ [o])).sum + b
        omega
/-- a block without calls, as a call of it -/
def runO (bk : Bk) (vss : List (List Int)) : Option (List Int × Int × Int) := (runC (fun _ => none) bk.code (vss, 0, 0)).map fun s => (s.1.getD bk.res.toNat [], s.2.1, s.2.2)
theorem runO_at {bk : Bk} {vss : List (List Int)} (s t : Int) : runC (fun _ => none) bk.code (vss, s, t) = (runC (fun _ => none) bk.code (vss, 0, 0)).map fun r => (r.1, r.2.1 + s, r.2.2 + t) := by
  have := run_shift (call := fun _ => none) s t bk.code vss 0 0
  rw [Int.zero_add, Int.zero_add] at this
  exact this
theorem run_wf {n : Nat} {code0 : List In} {call : List (List Int) → Option (List Int × Int × Int)} (ok : Okc 3 code0) (hn : n ≤ 100) : ∀ (code : List In) (k : Nat) (s s' : St3), code0.drop k = code → k ≤ code0.length → WfR n code0 k s.1 → runC call code s = some s' → WfR n code0 code0.length s'.1
  | [], k, s, s', e, hk, g, h => by
    obtain rfl : s = s' := Option.some.inj h
    have : k = code0.length := by
      have := congrArg List.length e
      simp at this
      omega
    rw [← this]; exact g
  | x :: r, k, s, s', e, hk, g, h => by
    have lt : k < code0.length := by
      have := congrArg List.length e
      simp at this
      omega
    rw [List.drop_eq_getElem_cons lt] at e
    injection e with e1 e2
    obtain ⟨s1, h1, h2⟩ := Option.bind_eq_some_iff.mp h
    have ex : code0[k]? = some x := by rw [List.getElem?_eq_getElem lt, e1]
    exact run_wf ok hn r (k + 1) s1 s' e2 lt (step_wf ok hn ex g h1) h2
theorem other_block {K : PySem.W.Frag} {TE CM : Addr} {m bd pd p : Addr} {nm : Str} {bk : Bk} {v : V} {kvs : List (L2.Key × V)} {as : List Addr} {xss : List (List Int)} {sN tN dN : Int} {n : Nat} {H : Hp} {Q : VK} {E : XK}
    (hm : MachAt CM H m bd pd sN tN dN) (d0 : 0 ≤ dN) (d1 : dN < 40) (hbd : H bd = some (.dK kvs)) (hk : valV kvs (.inr nm) = some v) (hpd : H pd = some (.dK [])) (hb : BlkAt [] H nm bk v) (hp : H p = some (.lst (as.map V.ref))) (hv : VecsAt K H as xss) (h3 : xss.length = 3) (ok : BkOk bk) (hn : n ≤ 100) (hve : ∀ v ∈ xss, Ve n v)
    (hQ : ∀ r, runO bk xss = some r → ∀ (H' : Hp) (q b : Addr), Fr [m] H H' → MachAt CM H' m bd pd (sN + r.2.1) (tN + r.2.2) dN → H' q = some (.lst [.ref b]) → H' b = some (.lst (iv r.1)) → Q (.ref q) H') (hE : runO bk xss = none → ∀ H', E (.ref TE) none H') :
    spBlock K TE CM spNo (fun _ => none) [.ref m, .str nm, .ref p] H Q E := by
  refine ⟨m, bd, pd, p, nm, bk, v, kvs, as, xss, sN, tN, dN, fun k s => WfR n bk.code k s.1, rfl, hm, d0, d1, hbd, hk, hpd, hb, hp, hv, h3, Nat.le_trans ok.ln (by decide), start_wf h3 hve, fun k x s ex g => ⟨?_, fun s' h => step_wf ok.ok hn ex g h⟩, fun s hs g => ?_, fun hs => ?_⟩
  · have ik := ok.ok.kind x (List.mem_of_getElem? ex)
    obtain ⟨nc, pr, res, hI, hpr, he, _⟩ := exec_ok (R := s.1) ik hn (ve_ins ok.ok ex g)
    exact ⟨g.ln, ok.ok.out k x ex, fun r hr => (ok.ok.ins k x ex r hr).lt, few_ins ik, .inl ⟨nc, pr, res, hI, hpr, he⟩⟩
  · have lt := ok.rs.lt
    rw [runO_at] at hs
    obtain ⟨r, er, rfl⟩ := Option.map_eq_some_iff.mp hs
    have gl := g.ln
    refine ⟨⟨lt.1, by rw [gl]; omega⟩, fun H' q b f m' hq hb' => ?_⟩
    refine hQ (r.1.getD bk.res.toNat [], r.2.1, r.2.2) (by unfold runO; rw [er]; rfl) H' q b f ?_ hq hb'
    rw [Int.add_comm sN, Int.add_comm tN]
    exact m'
  · refine hE ?_
    rw [runO_at] at hs
    unfold runO
    cases e : runC (fun _ => none) bk.code (xss, 0, 0) with
    | none => rfl
    | some r => rw [e] at hs; cases hs
end K11

namespace K11
open PySem PySem.Spec PyProof.Rows L2
def runB (call : List (List Int) → Option (List Int × Int × Int)) (bk : Bk) (vss : List (List Int)) : Option (List Int × Int × Int) := (runC call bk.code (vss, 0, 0)).map fun s => (s.1.getD bk.res.toNat [], s.2.1, s.2.2)
theorem runB_at {call : List (List Int) → Option (List Int × Int × Int)} {bk : Bk} {vss : List (List Int)} (s t : Int) : runC call bk.code (vss, s, t) = (runC call bk.code (vss, 0, 0)).map fun r => (r.1, r.2.1 + s, r.2.2 + t) := by
  have := run_shift (call := call) s t bk.code vss 0 0
  rw [Int.zero_add, Int.zero_add] at this
  exact this
theorem mem_snoc {l : List In} {y x : In} {k : Nat} (h : (l ++ [y])[k]? = some x) : (k < l.length ∧ l[k]? = some x) ∨ (k = l.length ∧ x = y) := by
  rcases get_snoc h with e | ⟨e1, e2⟩
  · exact .inl ⟨(List.getElem?_eq_some_iff.mp e).1, e⟩
  · exact .inr ⟨e1, e2.symm⟩
theorem NumAt.kn {H H' : Hp} {v : V} (k : Kn H H') : NumAt [] H v → NumAt [] H' v := fun ⟨a, e, h, n⟩ => ⟨a, e, k _ _ (.inr ⟨_, rfl⟩) h, n⟩
theorem PairAt.kn {H H' : Hp} {v : V} (k : Kn H H') : PairAt [] H v → PairAt [] H' v := fun ⟨a, x, y, e, h, n, h1, h2⟩ => ⟨a, x, y, e, k _ _ (.inr ⟨_, rfl⟩) h, n, h1.kn k, h2.kn k⟩
theorem BlkAt.kn {H H' : Hp} {nm : Str} {b : Bk} {v : V} (h : BlkAt [] H nm b v) (k : Kn H H') : BlkAt [] H' nm b v := by
  obtain ⟨t, cp, rp, pv, nv, vs, e, h1, h2, h3, h4, h5, h6, n⟩ := h
  exact ⟨t, cp, rp, pv, nv, vs, e, k _ _ (.inr ⟨_, rfl⟩) h1, h2.kn k, h3.kn k, k _ _ (.inl ⟨_, rfl⟩) h4, h5.kn k, k _ _ (.inl ⟨_, rfl⟩) h6, n⟩
theorem main_block {K : PySem.W.Frag} {TE CM : Addr} {m bd pd p : Addr} {bk b2 : Bk} {v v2 : V} {kvs : List (L2.Key × V)} {as : List Addr} {xss : List (List Int)} {sN tN dN : Int} {n : Nat} {H : Hp} {Q : VK} {E : XK}
    (hm : MachAt CM H m bd pd sN tN dN) (d0 : 0 ≤ dN) (d1 : dN < 30) (hbd : H bd = some (.dK kvs)) (hk : valV kvs (.inr "main") = some v) (hk2 : valV kvs (.inr "other") = some v2) (hpd : H pd = some (.dK [])) (hb : BlkAt [] H "main" bk v) (hb2 : BlkAt [] H "other" b2 v2) (hp : H p = some (.lst (as.map V.ref))) (hv : VecsAt K H as xss) (h3 : xss.length = 3) (ok : MainOk bk) (ok2 : BkOk b2) (hn : n ≤ 100) (n1 : 1 ≤ n) (hve : ∀ v ∈ xss, Ve n v)
    (hQ : ∀ r, runB (runO b2) bk xss = some r → ∀ (H' : Hp) (q b : Addr), Fr [m] H H' → MachAt CM H' m bd pd (sN + r.2.1) (tN + r.2.2) dN → H' q = some (.lst [.ref b]) → H' b = some (.lst (iv r.1)) → Q (.ref q) H') (hE : runB (runO b2) bk xss = none → ∀ H', E (.ref TE) none H') :
    spBlock K TE CM (spC K TE CM) (runO b2) [.ref m, .str "main", .ref p] H Q E := by
  have fin : ∀ s, runC (runO b2) bk.code (xss, sN, tN) = some s → (0 ≤ bk.res ∧ bk.res < s.1.length) → (0 ≤ bk.res ∧ bk.res < s.1.length) ∧ ∀ (H' : Hp) (q b : Addr), Fr [m] H H' → MachAt CM H' m bd pd s.2.1 s.2.2 dN → H' q = some (.lst [.ref b]) → H' b = some (.lst (iv (s.1.getD bk.res.toNat []))) → Q (.ref q) H' := fun s hs hb => by
    rw [runB_at] at hs
    obtain ⟨r, er, rfl⟩ := Option.map_eq_some_iff.mp hs
    refine ⟨hb, fun H' q b f m' hq hb' => ?_⟩
    refine hQ (r.1.getD bk.res.toNat [], r.2.1, r.2.2) (by unfold runB; rw [er]; rfl) H' q b f ?_ hq hb'
    rw [Int.add_comm sN, Int.add_comm tN]
    exact m'
  have non : runC (runO b2) bk.code (xss, sN, tN) = none → ∀ H', E (.ref TE) none H' := fun hs => by
    refine hE ?_
    rw [runB_at] at hs
    unfold runB
    cases e : runC (runO b2) bk.code (xss, 0, 0) with
    | none => rfl
    | some r => rw [e] at hs; cases hs
  rcases ok with ok | ⟨code, r, q, ec, okc, lc, sr, sq, hres⟩
  · refine ⟨m, bd, pd, p, "main", bk, v, kvs, as, xss, sN, tN, dN, fun k s => WfR n bk.code k s.1, rfl, hm, d0, by omega, hbd, hk, hpd, hb, hp, hv, h3, Nat.le_trans ok.ln (by decide), start_wf h3 hve, fun k x s ex g => ⟨?_, fun s' h => step_wf ok.ok hn ex g h⟩, fun s hs g => fin s hs ?_, non⟩
    · have ik := ok.ok.kind x (List.mem_of_getElem? ex)
      obtain ⟨nc, pr, res, hI, hpr, he, _⟩ := exec_ok (R := s.1) ik hn (ve_ins ok.ok ex g)
      exact ⟨g.ln, ok.ok.out k x ex, fun r hr => (ok.ok.ins k x ex r hr).lt, few_ins ik, .inl ⟨nc, pr, res, hI, hpr, he⟩⟩
    · have lt := ok.rs.lt
      have gl := g.ln
      exact ⟨lt.1, by rw [gl]; omega⟩
  · refine ⟨m, bd, pd, p, "main", bk, v, kvs, as, xss, sN, tN, dN, fun k s => s.1.length = 3 + k ∧ (k ≤ code.length → WfR n code k s.1), rfl, hm, d0, by omega, hbd, hk, hpd, hb, hp, hv, h3, by rw [ec, List.length_append, List.length_singleton]; omega, ⟨by rw [h3], fun _ => start_wf h3 hve⟩, fun k x s ex g => ?_, fun s hs g => fin s hs ?_, non⟩
    · rw [ec] at ex
      rcases mem_snoc ex with ⟨lt, ex⟩ | ⟨rfl, rfl⟩
      · have gw := g.2 (by omega)
        have ik := okc.kind x (List.mem_of_getElem? ex)
        obtain ⟨nc, pr, res, hI, hpr, he, _⟩ := exec_ok (R := s.1) ik hn (ve_ins okc ex gw)
        refine ⟨⟨g.1, okc.out k x ex, fun r hr => (okc.ins k x ex r hr).lt, few_ins ik, .inl ⟨nc, pr, res, hI, hpr, he⟩⟩, fun s' h => ?_⟩
        have w := step_wf okc hn ex gw h
        exact ⟨w.ln, fun _ => w⟩
      · have gw := g.2 (Nat.le_refl _)
        have s0 : Sf 3 code code.length 0 := ⟨by omega, .inl (by decide)⟩
        refine ⟨⟨g.1, rfl, fun z hz => ?_, by simp, .inr ⟨rfl, "other", rfl, fun H1 qa as1 k1 dk m1 hq1 hv1 Qc hQc hn1 => ?_⟩⟩, fun s' h => ?_⟩
        · simp only [List.mem_cons, List.not_mem_nil, or_false] at hz
          rcases hz with rfl | rfl | rfl
          · exact s0.lt
          · exact sr.lt
          · exact sq.lt
        · have v0 := gw.sf 0 s0
          have vr := gw.sf r sr
          have vq := gw.sf q sq
          obtain ⟨y, ys, ey⟩ : ∃ y ys, s.1.getD (0 : Int).toNat [] = y :: ys := by
            cases e : s.1.getD (0 : Int).toNat [] with
            | nil => have := v0.ln; rw [e] at this; simp at this; omega
            | cons y ys => exact ⟨y, ys, rfl⟩
          obtain ⟨a0, ar, rfl⟩ : ∃ a0 ar, as1 = a0 :: ar := by
            cases as1 with
            | nil => exact hv1.elim
            | cons a0 ar => exact ⟨a0, ar, rfl⟩
          have nb : ∀ {z : Addr} {l : List (L2.Key × V)}, H z = some (.dK l) → z ≠ m := fun {z l} e k => by
            obtain ⟨dx, e2⟩ := hm
            rw [k, e2] at e
            cases e
          refine ⟨m, qa, a0, bd, pd, _, _, _, .str "other", ar, .int 1, y, ys, rfl, m1, hq1, by rw [← ey]; exact hv1.1, ?_⟩
          exact other_block (n := n) m1 (by omega) (by omega) (dk _ _ (nb hbd) hbd) hk2 (dk _ _ (nb hpd) hpd) (hb2.kn k1) hq1 hv1 rfl ok2 hn (fun z hz => by
            have hz' : z ∈ [s.1.getD (0 : Int).toNat [], s.1.getD r.toNat [], s.1.getD q.toNat []] := hz
            simp only [List.mem_cons, List.not_mem_nil, or_false] at hz'
            rcases hz' with rfl | rfl | rfl
            · exact v0
            · exact vr
            · exact vq) (fun o eo H' q' b' f m' hq' hb' => hQc _ _ ⟨q', b', o, eo, rfl, f, m', hq', hb'⟩) hn1
        · unfold stepI at h
          rw [if_pos rfl] at h
          obtain ⟨o, _, rfl⟩ := Option.map_eq_some_iff.mp h
          exact ⟨by rw [List.length_append, g.1]; simp; omega, fun z => absurd z (by omega)⟩
    · have gl := g.1
      rw [ec, List.length_append, List.length_singleton] at gl
      rcases hres with e | e
      · exact ⟨by omega, by rw [gl]; omega⟩
      · have lt := e.lt
        exact ⟨lt.1, by rw [gl]; omega⟩
end K11

namespace K11
open PySem PySem.Spec PyProof.Rows L2
theorem regs_ve {n : Nat} {code : List In} {k : Nat} {x : In} {R : List (List Int)} (ok : Okc 3 code) (ex : code[k]? = some x) (g : WfR n code k R) : ∀ v ∈ regs R x.ins, Ve n v := fun v hv => by
  obtain ⟨r, hr, rfl⟩ := List.mem_map.mp hv
  exact ve_ins ok ex g r hr
theorem lother_block {K : PySem.W.Frag} {bl p cv : Addr} {nm : Str} {bk : Bk} {v v1 v2 : V} {as : List Addr} {xss : List (List Int)} {sN tN : Int} {n : Nat} {H : Hp} {Q : VK} {E : XK}
    (hb : BlkAt [cv] H nm bk v) (hbl : H bl = some (.lst [v1, v2])) (nbl : bl ∉ [cv]) (hp : H p = some (.lst (as.map V.ref))) (np : p ∉ [cv]) (hv : VecsAt K H as xss) (na : ∀ b ∈ as, b ∉ [cv]) (h3 : xss.length = 3) (hcv : H cv = some (.lst [.int sN, .int tN])) (ok : BkOk bk) (hn : n ≤ 100) (hve : ∀ v ∈ xss, Ve n v)
    (hQ : ∀ r, runO bk xss = some r → ∀ (H' : Hp) (b : Addr), Fr [cv] H H' → H' cv = some (.lst [.int (sN + r.2.1), .int (tN + r.2.2)]) → H' b = some (.lst (iv r.1)) → b ∉ [cv] → Q (.ref b) H') (hN : runO bk xss = none → ∀ H', Fr [cv] H H' → Q .non H') :
    spLBlock K spNo (fun _ => none) [.ref bl, v, .ref p, .ref cv] H Q E := by
  refine ⟨bl, p, cv, nm, bk, v, v1, v2, as, xss, sN, tN, fun k s => WfR n bk.code k s.1, rfl, hb, hbl, nbl, hp, np, hv, na, h3, Nat.le_trans ok.ln (by decide), hcv, start_wf h3 hve, fun k x s ex g => ⟨?_, fun s' h => step_wf ok.ok hn ex g h⟩, fun s hs g => ?_, fun hs => ?_⟩
  · have ik := ok.ok.kind x (List.mem_of_getElem? ex)
    obtain ⟨nc, _⟩ := exec_ok (R := s.1) ik hn (ve_ins ok.ok ex g)
    exact ⟨g.ln, ok.ok.out k x ex, fun r hr => (ok.ok.ins k x ex r hr).lt, few_ins ik, .inl ⟨nc, ik, n, hn, regs_ve ok.ok ex g⟩⟩
  · have lt := ok.rs.lt
    rw [runO_at] at hs
    obtain ⟨r, er, rfl⟩ := Option.map_eq_some_iff.mp hs
    have gl := g.ln
    refine ⟨⟨lt.1, by rw [gl]; omega⟩, fun H' b f m' hb' nb => ?_⟩
    refine hQ (r.1.getD bk.res.toNat [], r.2.1, r.2.2) (by unfold runO; rw [er]; rfl) H' b f ?_ hb' nb
    rw [Int.add_comm sN, Int.add_comm tN]
    exact m'
  · refine hN ?_
    rw [runO_at] at hs
    unfold runO
    cases e : runC (fun _ => none) bk.code (xss, 0, 0) with
    | none => rfl
    | some r => rw [e] at hs; cases hs
theorem lmain_block {K : PySem.W.Frag} {bl p cv : Addr} {bk b2 : Bk} {v v2 : V} {as : List Addr} {xss : List (List Int)} {sN tN : Int} {n : Nat} {H : Hp} {Q : VK} {E : XK}
    (hb : BlkAt [cv] H "main" bk v) (hb2 : BlkAt [cv] H "other" b2 v2) (hbl : H bl = some (.lst [v, v2])) (nbl : bl ∉ [cv]) (hp : H p = some (.lst (as.map V.ref))) (np : p ∉ [cv]) (hv : VecsAt K H as xss) (na : ∀ b ∈ as, b ∉ [cv]) (h3 : xss.length = 3) (hcv : H cv = some (.lst [.int sN, .int tN])) (ok : MainOk bk) (ok2 : BkOk b2) (hn : n ≤ 100) (n1 : 1 ≤ n) (hve : ∀ v ∈ xss, Ve n v)
    (hQ : ∀ r, runB (runO b2) bk xss = some r → ∀ (H' : Hp) (b : Addr), Fr [cv] H H' → H' cv = some (.lst [.int (sN + r.2.1), .int (tN + r.2.2)]) → H' b = some (.lst (iv r.1)) → b ∉ [cv] → Q (.ref b) H') (hN : runB (runO b2) bk xss = none → ∀ H', Fr [cv] H H' → Q .non H') :
    spLBlock K (spLBlock K spNo (fun _ => none)) (runO b2) [.ref bl, v, .ref p, .ref cv] H Q E := by
  have fin : ∀ s, runC (runO b2) bk.code (xss, sN, tN) = some s → (0 ≤ bk.res ∧ bk.res < s.1.length) → (0 ≤ bk.res ∧ bk.res < s.1.length) ∧ ∀ (H' : Hp) (b : Addr), Fr [cv] H H' → H' cv = some (.lst [.int s.2.1, .int s.2.2]) → H' b = some (.lst (iv (s.1.getD bk.res.toNat []))) → b ∉ [cv] → Q (.ref b) H' := fun s hs hb => by
    rw [runB_at] at hs
    obtain ⟨r, er, rfl⟩ := Option.map_eq_some_iff.mp hs
    refine ⟨hb, fun H' b f m' hb' nb => ?_⟩
    refine hQ (r.1.getD bk.res.toNat [], r.2.1, r.2.2) (by unfold runB; rw [er]; rfl) H' b f ?_ hb' nb
    rw [Int.add_comm sN, Int.add_comm tN]
    exact m'
  have non : runC (runO b2) bk.code (xss, sN, tN) = none → ∀ H', Fr [cv] H H' → Q .non H' := fun hs => by
    refine hN ?_
    rw [runB_at] at hs
    unfold runB
    cases e : runC (runO b2) bk.code (xss, 0, 0) with
    | none => rfl
    | some r => rw [e] at hs; cases hs
  rcases ok with ok | ⟨code, r, q, ec, okc, lc, sr, sq, hres⟩
  · refine ⟨bl, p, cv, "main", bk, v, v, v2, as, xss, sN, tN, fun k s => WfR n bk.code k s.1, rfl, hb, hbl, nbl, hp, np, hv, na, h3, Nat.le_trans ok.ln (by decide), hcv, start_wf h3 hve, fun k x s ex g => ⟨?_, fun s' h => step_wf ok.ok hn ex g h⟩, fun s hs g => fin s hs ?_, non⟩
    · have ik := ok.ok.kind x (List.mem_of_getElem? ex)
      obtain ⟨nc, _⟩ := exec_ok (R := s.1) ik hn (ve_ins ok.ok ex g)
      exact ⟨g.ln, ok.ok.out k x ex, fun r hr => (ok.ok.ins k x ex r hr).lt, few_ins ik, .inl ⟨nc, ik, n, hn, regs_ve ok.ok ex g⟩⟩
    · have lt := ok.rs.lt
      have gl := g.ln
      exact ⟨lt.1, by rw [gl]; omega⟩
  · refine ⟨bl, p, cv, "main", bk, v, v, v2, as, xss, sN, tN, fun k s => s.1.length = 3 + k ∧ (k ≤ code.length → WfR n code k s.1), rfl, hb, hbl, nbl, hp, np, hv, na, h3, by rw [ec, List.length_append, List.length_singleton]; omega, hcv, ⟨by rw [h3], fun _ => start_wf h3 hve⟩, fun k x s ex g => ?_, fun s hs g => fin s hs ?_, non⟩
    · rw [ec] at ex
      rcases mem_snoc ex with ⟨lt, ex⟩ | ⟨rfl, rfl⟩
      · have gw := g.2 (by omega)
        have ik := okc.kind x (List.mem_of_getElem? ex)
        obtain ⟨nc, _⟩ := exec_ok (R := s.1) ik hn (ve_ins okc ex gw)
        refine ⟨⟨g.1, okc.out k x ex, fun r hr => (okc.ins k x ex r hr).lt, few_ins ik, .inl ⟨nc, ik, n, hn, regs_ve okc ex gw⟩⟩, fun s' h => ?_⟩
        have w := step_wf okc hn ex gw h
        exact ⟨w.ln, fun _ => w⟩
      · have gw := g.2 (Nat.le_refl _)
        have s0 : Sf 3 code code.length 0 := ⟨by omega, .inl (by decide)⟩
        have v0 := gw.sf 0 s0
        have vr := gw.sf r sr
        have vq := gw.sf q sq
        obtain ⟨y, ys, ey⟩ : ∃ y ys, s.1.getD (0 : Int).toNat [] = y :: ys := by
          cases e : s.1.getD (0 : Int).toNat [] with
          | nil => have := v0.ln; rw [e] at this; simp at this; omega
          | cons y ys => exact ⟨y, ys, rfl⟩
        refine ⟨⟨g.1, rfl, fun z hz => ?_, by simp, .inr ⟨rfl, ⟨y, ys, [s.1.getD r.toNat [], s.1.getD q.toNat []], by rw [← ey]; rfl⟩, fun H1 qa as1 f1 hcv1 nqa hq1 hv1 na1 Qc hQc hn1 => ?_⟩⟩, fun s' h => ?_⟩
        · simp only [List.mem_cons, List.not_mem_nil, or_false] at hz
          rcases hz with rfl | rfl | rfl
          · exact s0.lt
          · exact sr.lt
          · exact sq.lt
        · exact lother_block (n := n) (hb2.fr f1) (f1 _ _ nbl hbl) nbl hq1 nqa hv1 na1 rfl hcv1 ok2 hn (fun z hz => by
            have hz' : z ∈ [s.1.getD (0 : Int).toNat [], s.1.getD r.toNat [], s.1.getD q.toNat []] := hz
            simp only [List.mem_cons, List.not_mem_nil, or_false] at hz'
            rcases hz' with rfl | rfl | rfl
            · exact v0
            · exact vr
            · exact vq) (fun o eo H' b' f m' hb' nb' => hQc _ _ ⟨b', o, eo, rfl, f, m', hb', nb'⟩) hn1
        · unfold stepI at h
          rw [if_pos rfl] at h
          obtain ⟨o, _, rfl⟩ := Option.map_eq_some_iff.mp h
          exact ⟨by rw [List.length_append, g.1]; simp; omega, fun z => absurd z (by omega)⟩
    · have gl := g.1
      rw [ec, List.length_append, List.length_singleton] at gl
      rcases hres with e | e
      · exact ⟨by omega, by rw [gl]; omega⟩
      · have lt := e.lt
        exact ⟨lt.1, by rw [gl]; omega⟩
end K11

namespace K11
open PySem PySem.Spec PyProof.Rows L2
def inps (qs : List (Int × Int)) : List (List Int) := [lanes qs.length, qs.map (·.1), qs.map (·.2)]
theorem inps_ve {qs : List (Int × Int)} (h : ∀ q ∈ qs, InR q.1 ∧ InR q.2) (hl : qs.length ≤ 100) : ∀ v ∈ inps qs, Ve qs.length v := fun v hv => by
  simp only [inps, List.mem_cons, List.not_mem_nil, or_false] at hv
  rcases hv with rfl | rfl | rfl
  · refine ⟨by simp [lanes], fun y hy => ?_⟩
    obtain ⟨k, hk, rfl⟩ := List.mem_map.mp hy
    have := List.mem_range.mp hk
    unfold InR; omega
  · exact ⟨List.length_map _, fun y hy => by obtain ⟨q, hq, rfl⟩ := List.mem_map.mp hy; exact (h q hq).1⟩
  · exact ⟨List.length_map _, fun y hy => by obtain ⟨q, hq, rfl⟩ := List.mem_map.mp hy; exact (h q hq).2⟩
section
variable {P : Program} {w : World} {K : PySem.W.Frag} {mg : Str → Option Value} {base : Heap} {b : Ad} {sa : SAd} {a : KAd}
def spRun (TE : Addr) : Sp := fun vs H Q E => ∃ (bl p : Addr) (v1 v2 : V) (us : List V) (qs : List (Int × Int)) (b1 b2 : Bk), vs = [.ref bl, .str "main", .ref p] ∧ H bl = some (.lst [v1, v2]) ∧ BlkAt [] H "main" b1 v1 ∧ BlkAt [] H "other" b2 v2 ∧ MainOk b1 ∧ BkOk b2 ∧ H p = some (.lst us) ∧ PrsAt H us qs ∧ qs.length ≤ 100 ∧ (∀ q ∈ qs, InR q.1 ∧ InR q.2) ∧
  (qs = [] → ∀ (H' : Hp) (t o : Addr), Same H H' → H' t = some (.tup [.ref o, .int 0, .int 0]) → H' o = some (.lst []) → Q (.ref t) H') ∧
  (qs ≠ [] → (∀ r, runB (runO b2) b1 (inps qs) = some r → ∀ (H' : Hp) (t o : Addr), Same H H' → H' t = some (.tup [.ref o, .int r.2.1, .int r.2.2]) → H' o = some (.lst (iv r.1)) → Q (.ref t) H') ∧ (runB (runO b2) b1 (inps qs) = none → ∀ H', E (.ref TE) none H'))
theorem ok_run (M : MTxt w K mg b sa a) : FnOk P w K mg base (L2.CX P w) 11 b.run.1 b.run.2 ["blocks", "name", "values"] (spRun b.TrapError) := by
  refine M.S.T.run.F.okX sc_run (fun vs H Q E h => ?_) (fun cdv A outer s H vs Q E hr h => ?_)
  · obtain ⟨_, _, _, _, _, _, _, _, rfl, _⟩ := h
    rfl
  obtain ⟨bl, p, v1, v2, us, qs, b1, b2, rfl, hbl, hb1, hb2, ok1, ok2, hp, hus, hl, hir, q0, q1⟩ := h
  have nd := sc_run.nd
  have G_minit := ok_minit (P := P) (base := base) M
  have G_results_for := ok_results_for (P := P) (base := base) M (ok_block1 (P := P) (base := base) M (call := runO b2))
  refine ⟨_, (pss_cons (ps_set (i := 3) nd rfl (Or.inl rfl) (pe_make M.mkk G_minit (hr.mono (by omega)) rfl M.gC M.ib .nil pass0 (pa_cons (pv 0) (pa_cons pe_dnewK pa_nil))))
  (pss_cons (ps_set (i := 4) nd rfl (Or.inl rfl) (pe_meth (pv 3) M.cl M.results_for.m G_results_for (hr.mono (by omega)) M.results_for.b .nil (passes_call (takes_of rfl rfl rfl rfl) (fun _ _ _ _ h => h)) (pa_cons (pv 1) (pa_cons (pv 2) pa_nil))))
  (pss_one (ps_ret (pe_tup (pa_cons (pv 4) (pa_cons (pe_fld (pv 3) rfl) (pa_cons (pe_fld (pv 3) rfl) pa_nil)))))))), ?_⟩
  refine ⟨_, rfl, fun pd npd m dx hm0 hdx0 ne => ?_⟩
  have s1 := same_new npd (.dK [])
  have hm00 : H m = none := some_free0 s1 hm0
  have hdx00 : H dx = none := some_free0 s1 hdx0
  have s2 : Same H (upd (upd (upd H pd (.dK [])) dx (.own m)) m (.ins a.C dx [])) := fun z o e => by rw [upd_ne (ne_of_none e hm00), upd_ne (ne_of_none e hdx00)]; exact s1 _ _ e
  have nmp : pd ≠ m := ne_of_none upd_same hm0
  have ndp : pd ≠ dx := ne_of_none upd_same hdx0
  obtain ⟨t1, cp1, rp1, pv1, nv1, vs1, rfl, ht1, hP1, hN1, _⟩ := id hb1
  obtain ⟨t2, cp2, rp2, pv2, nv2, vs2, rfl, ht2, _⟩ := id hb2
  refine ⟨m, dx, bl, pd, .ref t1, .ref t2, rfl, upd_same, s2 _ _ hbl, ⟨t1, _, _, rfl, s2 _ _ ht1⟩, ⟨t2, _, _, rfl, s2 _ _ ht2⟩, fun H2 bd kvs f2 nbd hbd hk1 hk2 hm2 => ⟨rfl, ?_⟩⟩
  have s02 : Same H H2 := fun z o e => f2 _ _ (ne_of_none e hm00) (s2 _ _ e)
  have hpd2 : H2 pd = some (.dK []) := f2 _ _ nmp (by rw [upd_ne nmp, upd_ne ndp]; exact upd_same)
  obtain ⟨dx2, hmi⟩ := id hm2
  obtain ⟨kp, x, y, rfl, hkp, _, hx, hy⟩ := hP1
  obtain ⟨xa, rfl, hxa, _⟩ := hN1
  refine ⟨_, rfl, m, dx2, _, rfl, hmi, rfl, _, rfl, _, rfl, m, bd, pd, p, kp, xa, x, y, .ref t1, "main", kvs, us, qs, 0, 0, 0, [], t1, rfl, hm2, hbd, hk1, rfl, ⟨_, _, s02 _ _ ht1⟩, s02 _ _ hkp, hx.fr (Fr.same s02), hy.fr (Fr.same s02), s02 _ _ hxa, s02 _ _ hp, hus.same s02, by omega, fun c H' o s' ho => ?_, fun c H3 r as s3 hr3 hv3 Qc hQc => ?_⟩
  · refine ⟨_, rfl, _, rfl, m, a.C, dx2, _, _, rfl, s' _ _ hmi, M.cl, M.n_steps, rfl, _, rfl, m, a.C, dx2, _, _, rfl, s' _ _ hmi, M.cl, M.n_touches, rfl, (by show 3 ≤ sizeLine; decide), fun t nt => ?_⟩
    exact q0 c _ t o (fun z o e => (same_new nt _) _ _ (s' _ _ (s02 _ _ e))) upd_same ((same_new nt _) _ _ ho)
  · have s03 := s02.trans s3
    have qp : 1 ≤ qs.length := by
      cases qs with
      | nil => exact absurd rfl c
      | cons _ _ => rw [List.length_cons]; omega
    refine main_block (n := qs.length) ⟨dx2, s3 _ _ hmi⟩ (by omega) (by omega) (s3 _ _ hbd) hk1 hk2 (s3 _ _ hpd2) (hb1.fr (Fr.same s03)) (hb2.fr (Fr.same s03)) hr3 hv3 rfl ok1 ok2 hl qp (inps_ve hir hl) (fun rr er H4 q b4 f4 m4 hq4 hb4 => ?_) (fun en => (q1 c).2 en)
    refine hQc _ _ ⟨q, b4, rr.1, rfl, f4, hq4, hb4, fun H5 o s5 ho => ?_⟩
    obtain ⟨dx4, hm4⟩ := m4
    rw [Int.zero_add, Int.zero_add] at hm4
    have hm5 := s5 _ _ hm4
    refine ⟨_, rfl, _, rfl, m, a.C, dx4, _, _, rfl, hm5, M.cl, M.n_steps, rfl, _, rfl, m, a.C, dx4, _, _, rfl, hm5, M.cl, M.n_touches, rfl, (by show 3 ≤ sizeLine; decide), fun t nt => ?_⟩
    refine (q1 c).1 rr er _ t o (fun z o' e => (same_new nt _) _ _ (s5 _ _ (f4 _ _ (fun k => ?_) (s03 _ _ e)))) upd_same ((same_new nt _) _ _ ho)
    rw [List.mem_singleton.mp k, hm00] at e
    cases e
end
end K11

namespace K11
open PySem PySem.Spec PyProof.Rows L2
/-! ### blocks as data -/
theorem Shw.mono {d : PyData} {n m n' m' : Nat} (h : Shw d n m) (hn : n ≤ n') (hm : m ≤ m') : Shw d n' m' := ⟨h.ok, h.nd, Nat.le_trans h.dp hn, Nat.le_trans h.ln hm⟩
theorem Shws.tup {ds : List PyData} {n m : Nat} (h : Shws ds n m) : Shw (.tuple ds) (n + 1) (m + 2 * ds.length + 3) :=
  ⟨h.ok, h.nd, by show PyData.depthAll ds + 1 ≤ n + 1; have := h.dp; omega, by
    have a := tupleText_len_le (PyData.shownAll ds)
    have b := PyData.shownAll_length ds
    have c := h.ln
    show (tupleText (PyData.shownAll ds)).length ≤ _
    omega⟩
theorem shw_str {x : Str} {l : List Str} (h : x ∈ l) {n : Nat} (hl : (l.all fun y => decide ((PySem.reprText y).length ≤ n)) = true) : Shw (.str x) 0 n := ⟨rfl, rfl, Nat.le_refl _, of_decide_eq_true (List.all_eq_true.mp hl x h)⟩
theorem shws_map {α : Type} {f : α → PyData} {n m : Nat} : ∀ {l : List α}, (∀ x ∈ l, Shw (f x) n m) → Shws (l.map f) n (m * l.length)
  | [], _ => Shws.nil
  | x :: r, h => by
    have := Shws.cons (h x (List.mem_cons_self ..)) (shws_map fun y m => h y (List.mem_cons_of_mem _ m))
    rw [List.length_cons, Nat.mul_add, Nat.mul_one, Nat.add_comm]
    exact this
def exd : V → PyData
  | .int n => .int n
  | .str s => .str s
  | _ => .none
def In.d (x : In) : PyData := .tuple [.str x.nm, exd x.ex, nsd x.ins, nsd [x.out]]
def words : List Str := ["fill", "calc", "flags", "range", "same", "join", "call", "other", "main", "block", "pair", "num", "+", "-", "*", "/", "mod", "min", "max", "<", "="]
/-- what an instruction may hold -/
structure InOk (x : In) : Prop where
  nm : x.nm ∈ words
  ex : x.ex = .non ∨ (∃ n, x.ex = .int n ∧ InR n) ∨ ∃ s, x.ex = .str s ∧ s ∈ words
  il : x.ins.length ≤ 3
  ii : ∀ r ∈ x.ins, InR r
  oo : InR x.out
theorem exd_shw {v : V} (h : v = .non ∨ (∃ n, v = .int n ∧ InR n) ∨ ∃ s, v = .str s ∧ s ∈ words) : Shw (exd v) 0 11 := by
  rcases h with rfl | ⟨n, rfl, h⟩ | ⟨s, rfl, h⟩
  · exact ⟨rfl, rfl, Nat.le_refl _, by decide +kernel⟩
  · exact shw_int h
  · exact shw_str h (by decide +kernel)
theorem nsd_shw3 {l : List Int} (h : l.length ≤ 3) (hi : ∀ r ∈ l, InR r) : Shw (nsd l) 1 42 := by
  have a := (ints_shw hi).lst
  rw [List.length_map] at a
  exact a.mono (Nat.le_refl _) (by omega)
theorem In.shw {x : In} (h : InOk x) : Shw x.d 2 150 := by
  refine Shw.mono (Shws.tup (n := 1) ((Shws.cons ((shw_str (n := 11) h.nm (by decide +kernel)).mono (Nat.zero_le _) (Nat.le_refl _)) (Shws.cons ((exd_shw h.ex).mono (Nat.zero_le _) (Nat.le_refl _)) (Shws.cons (nsd_shw3 h.il h.ii) (Shws.cons (nsd_shw3 (l := [x.out]) (by simp) (by simpa using h.oo)) (Shws.nil (m := 0)))))))) (Nat.le_refl _) ?_
  simp only [List.length_cons, List.length_nil]
  omega
theorem dps_of {K : PySem.W.Frag} {H : Hp} {v : V} (h : v = .non ∨ (∃ n, v = .int n ∧ InR n) ∨ ∃ s, v = .str s ∧ s ∈ words) : Dp K H v (exd v) := by
  rcases h with rfl | ⟨n, rfl, _⟩ | ⟨s, rfl, _⟩
  · exact .non
  · exact .int n
  · exact .str s
theorem InAt.dp {K : PySem.W.Frag} {X : List Addr} {H : Hp} {x : In} {v : V} (h : InAt X H x v) (ok : InOk x) : Dp K H v x.d := by
  obtain ⟨t, a, b, rfl, ht, ha, hb, _⟩ := h
  exact .tup (.inl (.inl ht)) (.cons (.str _) (.cons (dps_of ok.ex) (.cons (nsd_dp (SqL.of ha)) (.cons (nsd_dp (ns := [x.out]) (SqL.of hb)) .nil))))
theorem InsAt.dp {K : PySem.W.Frag} {X : List Addr} {H : Hp} : ∀ {code : List In} {vs : List V}, InsAt X H code vs → (∀ x ∈ code, InOk x) → DpAll K H vs (code.map In.d)
  | [], [], _, _ => .nil
  | x :: _, _ :: _, ⟨a, b⟩, ok => .cons (a.dp (ok x (List.mem_cons_self ..))) (b.dp fun y m => ok y (List.mem_cons_of_mem _ m))
  | [], _ :: _, h, _ => h.elim
  | _ :: _, [], h, _ => h.elim
def numD : PyData := .tuple [.str "num"]
def pairD : PyData := .tuple [.str "pair", numD, numD]
def Bk.d (nm : Str) (b : Bk) : PyData := .tuple [.str "block", .str nm, pairD, numD, .list (b.code.map In.d), nsd [b.res]]
structure BlOk (b : Bk) : Prop where
  ins : ∀ x ∈ b.code, InOk x
  ln : b.code.length ≤ 37
  rs : InR b.res
theorem NumAt.dp {K : PySem.W.Frag} {X : List Addr} {H : Hp} {v : V} : NumAt X H v → Dp K H v numD := fun ⟨a, e, h, _⟩ => by rw [e]; exact .tup (.inl (.inl h)) (.cons (.str _) .nil)
theorem PairAt.dp {K : PySem.W.Frag} {X : List Addr} {H : Hp} {v : V} : PairAt X H v → Dp K H v pairD := fun ⟨a, x, y, e, h, _, h1, h2⟩ => by rw [e]; exact .tup (.inl (.inl h)) (.cons (.str _) (.cons h1.dp (.cons h2.dp .nil)))
theorem BlkAt.dp {K : PySem.W.Frag} {X : List Addr} {H : Hp} {nm : Str} {b : Bk} {v : V} (h : BlkAt X H nm b v) (ok : BlOk b) : Dp K H v (b.d nm) := by
  obtain ⟨t, cp, rp, pv, nv, vs, rfl, h1, h2, h3, h4, h5, h6, _⟩ := h
  exact .tup (.inl (.inl h1)) (.cons (.str _) (.cons (.str _) (.cons h2.dp (.cons h3.dp (.cons (.lst (SqL.of h4) (h5.dp ok.ins)) (.cons (nsd_dp (ns := [b.res]) (SqL.of h6)) .nil))))))
theorem Bk.shw {nm : Str} {b : Bk} (hn : nm ∈ words) (ok : BlOk b) : Shw (b.d nm) 4 7000 := by
  have c := (shws_map (f := In.d) (n := 2) (m := 150) fun x hx => In.shw (ok.ins x hx)).lst
  rw [List.length_map] at c
  have c' := c.mono (n' := 3) (m' := 6000) (by omega) (by have := ok.ln; omega)
  have p : Shw pairD 3 40 := ⟨by decide +kernel, by decide +kernel, by decide +kernel, by decide +kernel⟩
  have q : Shw numD 3 40 := ⟨by decide +kernel, by decide +kernel, by decide +kernel, by decide +kernel⟩
  refine Shw.mono (Shws.tup (n := 3) (Shws.cons ((shw_str (n := 11) (x := "block") (l := words) (by decide +kernel) (by decide +kernel)).mono (Nat.zero_le _) (Nat.le_refl _)) (Shws.cons ((shw_str (n := 11) hn (by decide +kernel)).mono (Nat.zero_le _) (Nat.le_refl _)) (Shws.cons p (Shws.cons q (Shws.cons c' (Shws.cons ((nsd_shw3 (l := [b.res]) (by simp) (by simpa using ok.rs)).mono (by omega) (Nat.le_refl _)) (Shws.nil (m := 0))))))))) (Nat.le_refl _) ?_
  simp only [List.length_cons, List.length_nil]
  omega
theorem sgn_word {k : Nat} {s : Str} (h : sgn[k]? = some s) : s ∈ words := by
  have m := List.mem_of_getElem? h
  simp only [sgn, List.mem_cons, List.not_mem_nil, or_false] at m
  rcases m with rfl | rfl | rfl | rfl | rfl | rfl | rfl | rfl | rfl <;> decide +kernel
theorem in_ok {code : List In} {k : Nat} {x : In} (ok : Okc 3 code) (lc : code.length ≤ 36) (ex : code[k]? = some x) : InOk x := by
  have lt := (List.getElem?_eq_some_iff.mp ex).1
  have ii : ∀ r ∈ x.ins, InR r := fun r hr => by have := (ok.ins k x ex r hr).lt; unfold InR; omega
  have oo : InR x.out := by rw [ok.out k x ex]; unfold InR; omega
  have ik := ok.kind x (List.mem_of_getElem? ex)
  refine ⟨?_, ?_, few_ins ik, ii, oo⟩
  · cases ik with
    | fill n r o h => show ("fill" : Str) ∈ words; decide +kernel
    | calc1 k s r q o h h5 h6 => show ("calc" : Str) ∈ words; decide +kernel
    | flags r o => show ("flags" : Str) ∈ words; decide +kernel
    | range r o => show ("range" : Str) ∈ words; decide +kernel
    | same r q o => show ("same" : Str) ∈ words; decide +kernel
    | join r q o => show ("join" : Str) ∈ words; decide +kernel
  · cases ik with
    | fill n r o h => exact .inr (.inl ⟨n, rfl, by unfold InR; omega⟩)
    | calc1 k s r q o h h5 h6 => exact .inr (.inr ⟨s, rfl, sgn_word h⟩)
    | flags r o => exact .inl rfl
    | range r o => exact .inl rfl
    | same r q o => exact .inl rfl
    | join r q o => exact .inl rfl
theorem bk_ok {b : Bk} (ok : BkOk b) : BlOk b := by
  refine ⟨fun x hx => ?_, by have := ok.ln; omega, by have := ok.rs.lt; have := ok.ln; unfold InR; omega⟩
  obtain ⟨k, e⟩ := List.getElem?_of_mem hx
  exact in_ok ok.ok ok.ln e
theorem main_ok {b : Bk} (ok : MainOk b) : BlOk b := by
  rcases ok with ok | ⟨code, r, q, ec, okc, lc, sr, sq, hres⟩
  · exact bk_ok ok
  · have lr := sr.lt
    have lq := sq.lt
    refine ⟨fun x hx => ?_, by rw [ec, List.length_append, List.length_singleton]; omega, ?_⟩
    · rw [ec] at hx
      rcases List.mem_append.mp hx with hx | hx
      · obtain ⟨k, e⟩ := List.getElem?_of_mem hx
        exact in_ok okc lc e
      · rw [List.mem_singleton.mp hx]
        refine ⟨by show ("call" : Str) ∈ words; decide +kernel, .inr (.inr ⟨"other", rfl, by decide +kernel⟩), by simp, fun z hz => ?_, by show InR (3 + (code.length : Int)); unfold InR; omega⟩
        simp only [List.mem_cons, List.not_mem_nil, or_false] at hz
        rcases hz with rfl | rfl | rfl <;> unfold InR <;> omega
    · rcases hres with e | e
      · rw [e]; unfold InR; omega
      · have := e.lt; unfold InR; omega
/-- the pairs -/
def prd (q : Int × Int) : PyData := .tuple [.int q.1, .int q.2]
theorem PrsAt.dp {K : PySem.W.Frag} {H : Hp} : ∀ {vs : List V} {qs : List (Int × Int)}, PrsAt H vs qs → DpAll K H vs (qs.map prd)
  | [], [], _ => .nil
  | _ :: _, _ :: _, ⟨⟨t, e, h⟩, r⟩ => .cons (by rw [e]; exact .tup (.inl (.inl h)) (.cons (.int _) (.cons (.int _) .nil))) r.dp
  | [], _ :: _, h => h.elim
  | _ :: _, [], h => h.elim
def allD (b1 b2 : Bk) (qs : List (Int × Int)) : PyData := .list [.list [b1.d "main", b2.d "other"], .list (qs.map prd)]
theorem all_shw {b1 b2 : Bk} {qs : List (Int × Int)} (o1 : BlOk b1) (o2 : BlOk b2) (hq : ∀ q ∈ qs, InR q.1 ∧ InR q.2) (hl : qs.length ≤ 100) : Shw (allD b1 b2 qs) 10 100000 := by
  have p := (shws_map (f := prd) (n := 1) (m := 40) fun q m => (Shws.tup (Shws.cons (shw_int (hq q m).1) (Shws.cons (shw_int (hq q m).2) (Shws.nil (m := 0))))).mono (Nat.le_refl _) (by simp)).lst
  rw [List.length_map] at p
  have bs := (Shws.cons (Bk.shw (nm := "main") (by decide +kernel) o1) (Shws.cons (Bk.shw (nm := "other") (by decide +kernel) o2) (Shws.nil (m := 0)))).lst
  refine Shw.mono (Shws.lst (n := 5) (Shws.cons (bs.mono (m' := 15000) (Nat.le_refl _) (by simp)) (Shws.cons (p.mono (n' := 5) (m' := 6000) (by omega) (by omega)) (Shws.nil (m := 0))))) (by omega) ?_
  simp
end K11

namespace K11
open PySem PySem.Spec PyProof.Rows L2
def trD (xs : List Int) (s t : Int) : PyData := .tuple [nsd xs, .int s, .int t]
theorem trD_lay {xs : List Int} {s t : Int} : (trD xs s t).canLay0 = true := by
  show ((nsd xs).canLay0 && (true && (true && true))) = true
  rw [nsd_lay]
  rfl
theorem trD_shaped {xs : List Int} {s t : Int} : SeqAt.shaped (trD xs s t) = true := by
  unfold SeqAt.shaped
  have d : (trD xs s t).depth ≤ 64 := by
    show max (nsd xs).depth (max 0 (max 0 0)) + 1 ≤ 64
    have := nsd_dep xs
    omega
  rw [trD_lay, decide_eq_true d]
  rfl
theorem trD_dp {K : PySem.W.Frag} {H : Hp} {t o : Addr} {xs : List Int} {a b : Int} (ht : H t = some (.tup [.ref o, .int a, .int b])) (ho : H o = some (.lst (iv xs))) : Dp K H (.ref t) (trD xs a b) := .tup (.inl (.inl ht)) (.cons (nsd_dp (SqL.of ho)) (.cons (.int _) (.cons (.int _) .nil)))
/-- what is due -/
def DueAt (H : Hp) (b1 b2 : Bk) (qs : List (Int × Int)) (due : V) (s t : Int) : Prop :=
  (∃ o xs, due = .ref o ∧ H o = some (.lst (iv xs)) ∧ ((qs = [] ∧ xs = [] ∧ s = 0 ∧ t = 0) ∨ (qs ≠ [] ∧ runB (runO b2) b1 (inps qs) = some (xs, s, t)))) ∨ (qs ≠ [] ∧ runB (runO b2) b1 (inps qs) = none ∧ due = .non)
section
variable {P : Program} {w : World} {K : PySem.W.Frag} {mg : Str → Option Value} {base : Heap} {b : Ad} {sa : SAd} {a : KAd}
theorem rest6 (M : MTxt w K mg b sa a) {cdv : Value} {A : Around} {outer : List Env} {s : Shared} {H0 : Hp} {E : XK} {Q : VK} (hg : (A.deeper (envOfC "law" (defScope s_law) s.heap.objs.size b.law.1 cdv)).guards = some []) (hr : Room 11 (A.deeper (envOfC "law" (defScope s_law) s.heap.objs.size b.law.1 cdv))) (q : ∀ H', Q (.bl true) H') :
    ∃ t, PSs (cxOf CX0 P w K mg base ["script", "state", "blocks", "values", "count_v", "due", "lanes", "before", "told", "k", "v"] "law" (defScope s_law) b.law.1 cdv A outer s H0 E).nox ((defBody s_law).drop 6) t ∧ ∀ (v0 v1 v6 : Option V) (bl vp cv : Addr) (x1 x2 due : V) (us : List V) (qs : List (Int × Int)) (b1 b2 : Bk) (sN tN : Int) (H : Hp), H bl = some (.lst [x1, x2]) → BlkAt [] H "main" b1 x1 → BlkAt [] H "other" b2 x2 → MainOk b1 → BkOk b2 → H vp = some (.lst us) → PrsAt H us qs → qs.length ≤ 100 → (∀ q ∈ qs, InR q.1 ∧ InR q.2) → (due = .non ∨ H cv = some (.lst [.int sN, .int tN])) → DueAt H b1 b2 qs due sN tN →
      t { nx := fun _ H' => Q .non H', rt := Q } [v0, v1, some (.ref bl), some (.ref vp), some (.ref cv), some due, v6, none, none, none, none] H := by
  have nd := sc_law.nd
  have G_run := ok_run (P := P) (base := base) M
  refine ⟨_, (pss_cons (ps_set (i := 7) nd rfl (Or.inl rfl) (pe_callB (GX.call_reprD hg hr.units) (by rfl) M.S.T.repr (by decide +kernel) (pa_cons (pe_lst (pa_cons (pv 2) (pa_cons (pv 3) pa_nil))) pa_nil)))
  (pss_cons (ps_try_only (tb := fun W => tAsg (tCallS (spRun b.TrapError) (WE W) (tCons (tVar 2) (tCons (tC (.str "main")) (tCons (tVar 3) tNil)))) (gName 8)) (ts := fun _ _ _ => tRet _) (Wout := fun _ _ _ _ => False) rfl rfl ⟨rfl, by decide, Or.inl M.S.T.gTrapError⟩ takes0
    (fun W pn xe tk _ => pss_one (ps_set (i := 8) nd rfl (Or.inl rfl) (by exact (pe_callS G_run (hr.mono (by omega)) rfl M.S.T.run.g M.S.T.run.F.kp M.S.T.run.b (fun σ => passAt tk σ) (by exact (pa_cons (pv 2) (pa_cons pe_str (pa_cons (pv 3) pa_nil))))))))
    (fun b oe cls d pn hz hf => pss_one (ps_ret (pe_cmpR op_isN (pv 5) pe_non (nomark _)))))
  (pss_one (ps_ret (pe_and (pe_cmpR (op_eqD hr.units) (pv 8) (pe_tup (pa_cons (pv 5) (pa_cons (pe_ix ix_list (pv 4) pe_int (fun _ _ => rfl)) (pa_cons (pe_ix ix_list (pv 4) pe_int (fun _ _ => rfl)) pa_nil)))) (nomark _)) (pe_one (pe_cmpR op_eq (pe_callB (GX.call_reprD hg hr.units) (by rfl) M.S.T.repr (by decide +kernel) (pa_cons (pe_lst (pa_cons (pv 2) (pa_cons (pv 3) pa_nil))) pa_nil)) (pv 7) (nomark _)))))))), ?_⟩
  intro v0 v1 v6 bl vp cv x1 x2 due us qs b1 b2 sN tN H hbl hb1 hb2 ok1 ok2 hvp hus hl hir hcv hdue
  have SH := all_shw (main_ok ok1) (bk_ok ok2) hir hl
  have dps : ∀ {H1 : Hp} {l : Addr}, Same H H1 → H1 l = some (.lst [.ref bl, .ref vp]) → Dp K H1 (.ref l) (allD b1 b2 qs) := fun {H1 l} sm h => .lst (SqL.of h) (.cons (.lst (SqL.of (sm _ _ hbl)) (.cons ((hb1.fr (Fr.same sm)).dp (main_ok ok1)) (.cons ((hb2.fr (Fr.same sm)).dp (bk_ok ok2)) .nil))) (.cons (.lst (SqL.of (sm _ _ hvp)) (hus.same sm).dp) .nil))
  refine ⟨_, rfl, _, rfl, (by show 2 ≤ sizeLine; decide), fun l nl => ?_⟩
  have s1 := same_new nl (.lst [V.ref bl, V.ref vp])
  refine ⟨l, allD b1 b2 qs, rfl, dps s1 upd_same, SH.ok, SH.nd, Nat.le_trans SH.dp (by decide), Nat.le_trans SH.ln (by decide), ?_⟩
  refine ⟨_, rfl, _, rfl, bl, vp, x1, x2, us, qs, b1, b2, rfl, s1 _ _ hbl, hb1.fr (Fr.same s1), hb2.fr (Fr.same s1), ok1, ok2, s1 _ _ hvp, hus.same s1, hl, hir, fun c H2 t o2 s2 ht ho2 => ?_, fun c => ⟨fun r er H2 t o2 s2 ht ho2 => ?_, fun en H2 => ?_⟩⟩
  · rcases hdue with ⟨o, xs, rfl, ho, ⟨_, e1, e2, e3⟩ | ⟨c2, _⟩⟩ | ⟨c2, _⟩
    rotate_left
    · exact absurd c c2
    · exact absurd c c2
    have ht : H2 t = some (.tup [.ref o2, .int sN, .int tN]) := by rw [e2, e3]; exact ht
    have ho2 : H2 o2 = some (.lst (iv xs)) := by rw [e1]; exact ho2
    have s02 := s1.trans s2
    have hcv2 := s02 _ _ (hcv.resolve_left nofun)
    refine ⟨_, rfl, _, rfl, _, rfl, cv, _, _, _, rfl, rfl, SqL.of hcv2, atI_nat (j := 0) rfl, _, rfl, cv, _, _, _, rfl, rfl, SqL.of hcv2, atI_nat (j := 1) rfl, (by show 3 ≤ sizeLine; decide), fun tt ntt => ?_⟩
    have s3 := same_new ntt (.tup [.ref o, .int sN, .int tN])
    refine ⟨trD xs sN tN, trD xs sN tN, trD_dp (s3 _ _ ht) (s3 _ _ ho2), trD_dp upd_same (s3 _ _ (s02 _ _ ho)), trD_shaped, trD_shaped, ?_⟩
    rw [SeqAt.eqv_refl _ trD_lay]
    have s03 := s02.trans s3
    refine ⟨_, rfl, ?_⟩
    refine ifT rfl ?_
    refine ⟨_, rfl, _, rfl, (by show 2 ≤ sizeLine; decide), fun l2 nl2 => ?_⟩
    refine ⟨l2, allD b1 b2 qs, rfl, dps (s03.trans (same_new nl2 _)) upd_same, SH.ok, SH.nd, Nat.le_trans SH.dp (by decide), Nat.le_trans SH.ln (by decide), _, rfl, rfl, ?_⟩
    rw [decide_eq_true rfl]
    exact q _
  · rcases hdue with ⟨o, xs, rfl, ho, ⟨c2, _⟩ | ⟨_, er2⟩⟩ | ⟨_, en, _⟩
    · exact absurd c2 c
    rotate_left
    · rw [er] at en; cases en
    rw [er] at er2
    obtain rfl := Option.some.inj er2
    have s02 := s1.trans s2
    have hcv2 := s02 _ _ (hcv.resolve_left nofun)
    refine ⟨_, rfl, _, rfl, _, rfl, cv, _, _, _, rfl, rfl, SqL.of hcv2, atI_nat (j := 0) rfl, _, rfl, cv, _, _, _, rfl, rfl, SqL.of hcv2, atI_nat (j := 1) rfl, (by show 3 ≤ sizeLine; decide), fun tt ntt => ?_⟩
    have s3 := same_new ntt (.tup [.ref o, .int sN, .int tN])
    refine ⟨trD xs sN tN, trD xs sN tN, trD_dp (s3 _ _ ht) (s3 _ _ ho2), trD_dp upd_same (s3 _ _ (s02 _ _ ho)), trD_shaped, trD_shaped, ?_⟩
    rw [SeqAt.eqv_refl _ trD_lay]
    have s03 := s02.trans s3
    refine ⟨_, rfl, ?_⟩
    refine ifT rfl ?_
    refine ⟨_, rfl, _, rfl, (by show 2 ≤ sizeLine; decide), fun l2 nl2 => ?_⟩
    refine ⟨l2, allD b1 b2 qs, rfl, dps (s03.trans (same_new nl2 _)) upd_same, SH.ok, SH.nd, Nat.le_trans SH.dp (by decide), Nat.le_trans SH.ln (by decide), _, rfl, rfl, ?_⟩
    rw [decide_eq_true rfl]
    exact q _
  · rcases hdue with ⟨o, xs, rfl, ho, ⟨c2, _⟩ | ⟨_, er2⟩⟩ | ⟨_, _, rfl⟩
    · exact absurd c2 c
    · rw [en] at er2; cases er2
    refine ⟨true, exm_of M.S.T.bT M.S.T.iT M.S.T.tT M.S.T.sT, fun _ b4 hb4 => ?_, fun z => nomatch z⟩
    refine ⟨_, rfl, rfl, ?_⟩
    rw [decide_eq_true rfl]
    exact q _
end
end K11

namespace K11
open PySem PySem.Spec PyProof.Rows L2
theorem ne_fresh {H : Hp} {z cv : Addr} {o : HO} (n : H cv = none) (e : H z = some o) : z ∉ [cv] := fun k => by rw [List.mem_singleton.mp k, n] at e; cases e
theorem NumAt.fresh {X : List Addr} {H : Hp} {cv : Addr} {v : V} (n : H cv = none) : NumAt X H v → NumAt [cv] H v := fun ⟨a, e, h, _⟩ => ⟨a, e, h, ne_fresh n h⟩
theorem PairAt.fresh {X : List Addr} {H : Hp} {cv : Addr} {v : V} (n : H cv = none) : PairAt X H v → PairAt [cv] H v := fun ⟨a, x, y, e, h, _, h1, h2⟩ => ⟨a, x, y, e, h, ne_fresh n h, h1.fresh n, h2.fresh n⟩
theorem InAt.fresh {X : List Addr} {H : Hp} {cv : Addr} {x : In} {v : V} (n : H cv = none) (h : InAt X H x v) : InAt [cv] H x v := by
  obtain ⟨t, a, b, e, h1, h2, h3, _⟩ := h
  exact ⟨t, a, b, e, h1, h2, h3, ne_fresh n h1, ne_fresh n h2, ne_fresh n h3⟩
theorem InsAt.fresh {X : List Addr} {H : Hp} {cv : Addr} (n : H cv = none) : ∀ {code : List In} {vs : List V}, InsAt X H code vs → InsAt [cv] H code vs
  | [], [], _ => trivial
  | _ :: _, _ :: _, ⟨a, b⟩ => ⟨a.fresh n, b.fresh n⟩
  | [], _ :: _, h => h.elim
  | _ :: _, [], h => h.elim
theorem BlkAt.fresh {X : List Addr} {H : Hp} {cv : Addr} {nm : Str} {b : Bk} {v : V} (h : BlkAt X H nm b v) (n : H cv = none) : BlkAt [cv] H nm b v := by
  obtain ⟨t, cp, rp, pv, nv, vs, e, h1, h2, h3, h4, h5, h6, _⟩ := h
  exact ⟨t, cp, rp, pv, nv, vs, e, h1, h2.fresh n, h3.fresh n, h4, h5.fresh n, h6, ne_fresh n h1, ne_fresh n h4, ne_fresh n h6⟩
theorem BlkAt.weak {X Y : List Addr} {H : Hp} {nm : Str} {b : Bk} {v : V} (h : BlkAt X H nm b v) (s : ∀ z, z ∈ Y → z ∈ X) : BlkAt Y H nm b v := by
  obtain ⟨t, cp, rp, pv, nv, vs, e, h1, ⟨a1, u1, u2, e1, g1, m1, ⟨a2, e2, g2, m2⟩, ⟨a3, e3, g3, m3⟩⟩, ⟨a4, e4, g4, m4⟩, h4, h5, h6, n1, n2, n3⟩ := h
  exact ⟨t, cp, rp, pv, nv, vs, e, h1, ⟨a1, u1, u2, e1, g1, fun z => m1 (s _ z), ⟨a2, e2, g2, fun z => m2 (s _ z)⟩, ⟨a3, e3, g3, fun z => m3 (s _ z)⟩⟩, ⟨a4, e4, g4, fun z => m4 (s _ z)⟩, h4, h5.weak s, h6, fun z => n1 (s _ z), fun z => n2 (s _ z), fun z => n3 (s _ z)⟩
def PrsN (X : List Addr) (H : Hp) : List V → List (Int × Int) → Prop
  | [], [] => True
  | v :: vs, q :: qs => (∃ t, v = .ref t ∧ H t = some (.tup [.int q.1, .int q.2]) ∧ t ∉ X) ∧ PrsN X H vs qs
  | _, _ => False
theorem PrsN.fr {X : List Addr} {H H' : Hp} (f : Fr X H H') : ∀ {vs : List V} {qs : List (Int × Int)}, PrsN X H vs qs → PrsN X H' vs qs
  | [], [], _ => trivial
  | _ :: _, _ :: _, ⟨⟨t, e, h, n⟩, r⟩ => ⟨⟨t, e, f _ _ n h, n⟩, r.fr f⟩
  | [], _ :: _, h => h.elim
  | _ :: _, [], h => h.elim
theorem PrsN.fresh {X : List Addr} {H : Hp} {cv : Addr} (n : H cv = none) : ∀ {vs : List V} {qs : List (Int × Int)}, PrsN X H vs qs → PrsN [cv] H vs qs
  | [], [], _ => trivial
  | _ :: _, _ :: _, ⟨⟨t, e, h, _⟩, r⟩ => ⟨⟨t, e, h, ne_fresh n h⟩, r.fresh n⟩
  | [], _ :: _, h => h.elim
  | _ :: _, [], h => h.elim
theorem PrsN.at_ {X : List Addr} {H : Hp} : ∀ {vs : List V} {qs : List (Int × Int)}, PrsN X H vs qs → PrsAt H vs qs
  | [], [], _ => trivial
  | _ :: _, _ :: _, ⟨⟨t, e, h, _⟩, r⟩ => ⟨⟨t, e, h⟩, r.at_⟩
  | [], _ :: _, h => h.elim
  | _ :: _, [], h => h.elim
theorem PrsN.snoc {X : List Addr} {H : Hp} {t : Addr} {q : Int × Int} (ht : H t = some (.tup [.int q.1, .int q.2])) (nt : t ∉ X) : ∀ {vs : List V} {qs : List (Int × Int)}, PrsN X H vs qs → PrsN X H (vs ++ [.ref t]) (qs ++ [q])
  | [], [], _ => ⟨⟨t, rfl, ht, nt⟩, trivial⟩
  | _ :: _, _ :: _, ⟨a, r⟩ => ⟨a, r.snoc ht nt⟩
  | [], _ :: _, h => h.elim
  | _ :: _, [], h => h.elim
section
variable {P : Program} {w : World} {K : PySem.W.Frag} {mg : Str → Option Value} {base : Heap} {b : Ad} {sa : SAd} {a : KAd}
def spLaw (K : PySem.W.Frag) : Sp := fun vs H Q _ => ∃ (p : Addr) (ns : List Int), vs = [.ref p] ∧ SqL K H p (ns.map V.int) ∧ ns.length ≤ 63 ∧ ∀ H', Q (.bl true) H'
theorem ok_law (M : MTxt w K mg b sa a) : GX.FnG P w K mg base CX0 12 b.law.1 b.law.2 ["script"] (spLaw K) := by
  refine GX.fnG M.S.T.law.F sc_law (fun vs H Q E h => ?_) (fun cdv A outer s H vs Q E hg hr h => ?_)
  · obtain ⟨p, ns, rfl, _⟩ := h
    rfl
  obtain ⟨p, ns, rfl, hS, h63, q⟩ := h
  have nd := sc_law.nd
  have G_law_state := ok_law_state (P := P) (w := w) (base := base) M.S.T
  have G_law_draw := ok_law_draw (P := P) (w := w) (base := base) M.S.T
  have G_law_number := ok_law_number (P := P) (w := w) (base := base) M.S.T
  have G_law_blocks := ok_law_blocks (P := P) (w := w) (base := base) M.S.T
  suffices hh : ∃ t, PSs (cxOf CX0 P w K mg base ["script", "state", "blocks", "values", "count_v", "due", "lanes", "before", "told", "k", "v"] "law" (defScope s_law) b.law.1 cdv A outer s H E).nox (defBody s_law) t ∧ t { nx := fun _ H' => Q .non H', rt := Q } (start ["script", "state", "blocks", "values", "count_v", "due", "lanes", "before", "told", "k", "v"] [V.ref p]) H by
    obtain ⟨t, ht, hq⟩ := hh
    exact ⟨t, ht.nox, hq⟩
  have G0 : FnOk P w K mg base CX0 0 b.law_block.1 b.law_block.2 ["blocks", "block", "vectors", "count_v"] spNo := ok_no
  obtain ⟨tD, hD, qD⟩ := rest6 (P := P) (base := base) M (cdv := cdv) (A := A) (outer := outer) (s := s) (H0 := H) (E := E) (Q := Q) hg hr q
  have GB : ∀ b2 : Bk, FnOk P w K mg base CX0 5 b.law_block.1 b.law_block.2 ["blocks", "block", "vectors", "count_v"] (spLBlock K (spLBlock K spNo (fun _ => none)) (runO b2)) := fun b2 => ok_law_block (call := runO b2) M.S.T (ok_law_block (call := fun _ => none) M.S.T G0)
  have G_law_block : FnOk P w K mg base CX0 5 b.law_block.1 b.law_block.2 ["blocks", "block", "vectors", "count_v"] (fun vs H Q E => ∃ b2 : Bk, spLBlock K (spLBlock K spNo (fun _ => none)) (runO b2) vs H Q E) := ⟨fun vs H Q E ⟨b2, h⟩ => (GB b2).len vs H Q E h, fun A outer s H args us vs Q E hr e0 hb hv ⟨b2, h⟩ => (GB b2).run A outer s H args us vs Q E hr e0 hb hv h⟩
  refine ⟨_, (pss_cons (ps_set (i := 1) nd rfl (Or.inr rfl) (pe_call G_law_state (hr.mono (by omega)) rfl M.S.T.law_state.g M.S.T.law_state.F.kp M.S.T.law_state.b .nil pass0 (pa_cons (pv 0) pa_nil)))
  (pss_cons (ps_set (i := 2) nd rfl (Or.inl rfl) (pe_call G_law_blocks (hr.mono (by omega)) rfl M.S.T.law_blocks.g M.S.T.law_blocks.F.kp M.S.T.law_blocks.b .nil pass0 (pa_cons (pv 1) pa_nil)))
  (pss_cons (ps_setLc (i := 3) (own := [("k", 9)]) (g := gName 9) (tt := tYes) rfl nd rfl rfl (sw_true rfl rfl rfl (by decide +kernel)) (pi_range1 rfl M.S.T.range (pa_cons (pe_call G_law_draw (hr.mono (by omega)) rfl M.S.T.law_draw.g M.S.T.law_draw.F.kp M.S.T.law_draw.b .nil pass0 (pa_cons (pv 1) (pa_cons pe_int pa_nil))) pa_nil)) (blkOk_by (N := ["script", "state", "blocks", "values", "count_v", "due", "lanes", "before", "told", "k", "v"]) (sc := defScope s_law) (by decide +kernel)) (fun _ _ _ _ _ => (pg_name (i := 9) nd rfl (Or.inl rfl))) (fun _ _ _ _ _ => pts_nil) (fun _ _ _ _ _ => (pe_tup (pa_cons (pe_call G_law_number (hr.mono (by omega)) rfl M.S.T.law_number.g M.S.T.law_number.F.kp M.S.T.law_number.b .nil pass0 (pa_cons (pv 1) pa_nil)) (pa_cons (pe_call G_law_number (hr.mono (by omega)) rfl M.S.T.law_number.g M.S.T.law_number.F.kp M.S.T.law_number.b .nil pass0 (pa_cons (pv 1) pa_nil)) pa_nil)))))
  (pss_cons (ps_set (i := 4) nd rfl (Or.inl rfl) (pe_lst (pa_cons pe_int (pa_cons pe_int pa_nil))))
  (pss_cons (ps_set (i := 5) nd rfl (Or.inl rfl) (pe_lst pa_nil))
  (pss_cons (ps_if (pt_cmpR op_gt (pe_callB call_len_seq (by rfl) M.S.T.len PySem.boot_len (pa_cons (pv 3) pa_nil)) pe_int (nomark _)) (pss_cons (ps_setLc (i := 6) (own := [("k", 9)]) (g := gName 9) (tt := tYes) rfl nd rfl rfl (sw_true rfl rfl rfl (by decide +kernel)) (pi_range1 rfl M.S.T.range (pa_cons (pe_callB call_len_seq (by rfl) M.S.T.len PySem.boot_len (pa_cons (pv 3) pa_nil)) pa_nil)) (blkOk_by (N := ["script", "state", "blocks", "values", "count_v", "due", "lanes", "before", "told", "k", "v"]) (sc := defScope s_law) (by decide +kernel)) (fun _ _ _ _ _ => (pg_name (i := 9) nd rfl (Or.inl rfl))) (fun _ _ _ _ _ => pts_nil) (fun _ _ _ _ _ => (pv 9)))
  (pss_one (ps_set (i := 5) nd rfl (Or.inl rfl) (pe_call G_law_block (hr.mono (by omega)) rfl M.S.T.law_block.g M.S.T.law_block.F.kp M.S.T.law_block.b .nil pass0 (pa_cons (pv 2) (pa_cons (pe_ix ix_list (pv 2) pe_int (fun _ _ => rfl)) (pa_cons (pe_lst (pa_cons (pv 6) (pa_cons (pe_lc (own := [("v", 10)]) (g := gName 10) (tt := tYes) rfl nd (pi_list (pv 3)) (blkOk_by (N := ["script", "state", "blocks", "values", "count_v", "due", "lanes", "before", "told", "k", "v"]) (sc := defScope s_law) (by decide +kernel)) (fun _ _ _ _ _ => (pg_name (i := 10) nd rfl (Or.inl rfl))) (fun _ _ _ _ _ => pts_nil) (fun _ _ _ _ _ => (pe_ix (ix_tupK (K := K) rfl) (pv 10) pe_int (fun _ _ => rfl)))) (pa_cons (pe_lc (own := [("v", 10)]) (g := gName 10) (tt := tYes) rfl nd (pi_list (pv 3)) (blkOk_by (N := ["script", "state", "blocks", "values", "count_v", "due", "lanes", "before", "told", "k", "v"]) (sc := defScope s_law) (by decide +kernel)) (fun _ _ _ _ _ => (pg_name (i := 10) nd rfl (Or.inl rfl))) (fun _ _ _ _ _ => pts_nil) (fun _ _ _ _ _ => (pe_ix (ix_tupK (K := K) rfl) (pv 10) pe_int (fun _ _ => rfl)))) pa_nil)))) (pa_cons (pv 4) pa_nil)))))))) pss_nil)
  hD)))))), ?_⟩
  refine ⟨_, rfl, p, ns, rfl, hS, h63, fun H1 st c s1 nst nc S1 => ?_⟩
  refine ⟨_, rfl, st, c, rfl, S1, fun H2 bl x1 x2 b1 b2 g2 hbl nbl hb1 hb2 ok1 ok2 => ?_⟩
  refine ⟨_, rfl, st, c, 5, rfl, g2.2, by decide, by decide, fun H3 m g3 m0 m1 => ?_⟩
  refine ⟨_, rfl, by omega, by omega, fun N nN => lc_it (walk_range (lo := 0) (n := m.toNat)) (fun i H4 => ∃ (us : List V) (qs : List (Int × Int)), Go st c H3 H4 ∧ H4 N = some (.lst us) ∧ PrsN [st, c, N] H4 us qs ∧ us.length = i ∧ qs.length = i ∧ ∀ q ∈ qs, InR q.1 ∧ InR q.2) ⟨[], [], Go.same g3.2 (same_new nN _), upd_same, trivial, rfl, rfl, by simp⟩ (fun _ _ _ _ => trivial) ?_ ?_⟩
  · rintro i y Hx H4 hi ⟨us, qs, g4, hN, hP, ul, ql, hir⟩ ⟨rfl, rfl⟩
    have nm := St.new g3.2 nN
    refine ⟨rfl, _, rfl, st, c, rfl, g4.2, fun H5 x g5 hx => ⟨_, rfl, st, c, rfl, g5.2, fun H6 z g6 hz => ⟨(by show 2 ≤ sizeLine; decide), fun t nt => ?_⟩⟩⟩
    have g46 := g5.trans g6
    have hN6 := g46.1 _ _ nm.1 nm.2 hN
    have st7 := same_new nt (.tup [V.int x, V.int z])
    have ntn : t ∉ [st, c, N] := fun k => by
      have n2 := St.new g6.2 nt
      simp only [List.mem_cons, List.not_mem_nil, or_false] at k
      rcases k with k | k | k
      · exact n2.1 k
      · exact n2.2 k
      · rw [k, hN6] at nt; cases nt
    have g47 := g46.trans (Go.same g6.2 st7)
    refine ⟨us, st7 _ _ hN6, by rw [ul]; exact small1000 (by omega), us ++ [.ref t], qs ++ [(x, z)], (g4.trans g47).put nN nm, upd_same, PrsN.snoc ?_ ntn ?_, by simp [ul], by simp [ql], fun q' hq' => ?_⟩
    · rw [upd_ne (fun k => ntn (by rw [k]; simp))]; exact upd_same
    · exact (hP.fr (Fr.go g47.1 (by simp) (by simp))).fr (Fr.put (by simp))
    · rcases List.mem_append.mp hq' with hq' | hq'
      · exact hir _ hq'
      · rw [List.mem_singleton.mp hq']; exact ⟨hx, hz⟩
  rintro H4 ⟨us, qs, g4, hN, hP, ul, ql, hir⟩
  refine ⟨(by show 2 ≤ sizeLine; decide), fun cv ncv => ?_⟩
  have s5 := same_new ncv (.lst [V.int 0, V.int 0])
  refine ⟨(by show 0 ≤ sizeLine; decide), fun o no => ?_⟩
  have s6 := same_new no (.lst [])
  have s46 := s5.trans s6
  have hcv6 := s6 _ _ (upd_same (H := H4) (a := cv) (o := .lst [V.int 0, V.int 0]))
  have ho6 := upd_same (H := upd H4 cv (.lst [V.int 0, V.int 0])) (a := o) (o := .lst [])
  have fr24 : Fr [st, c] H2 H4 := (Fr.gg g3).trans (Fr.gg g4)
  have w1 : ∀ z, z ∈ ([] : List Addr) → z ∈ [cv] := fun z h => absurd h List.not_mem_nil
  have w0 : ∀ z, z ∈ ([] : List Addr) → z ∈ [st, c] := fun z h => absurd h List.not_mem_nil
  have hbl6 := s46 _ _ (fr24 _ _ nbl hbl)
  have hN6 := s46 _ _ hN
  have hP6 := hP.at_.same s46
  have hb1' := hb1.fr fr24
  have hb2' := hb2.fr fr24
  refine ⟨_, rfl, N, _, rfl, .inl (SqL.of hN6), _, _, rfl, rfl, _, rfl, ?_⟩
  have lu : us.length = qs.length := by omega
  by_cases c0 : 0 < us.length
  · refine ifT (decide_eq_true (by omega)) ?_
    refine ⟨_, rfl, N, _, rfl, .inl (SqL.of hN6), _, rfl, Int.natCast_nonneg _, by omega, fun L nL => lc_it (walk_range (lo := 0) (n := us.length)) (fun i HX => Same (upd (upd H4 cv (.lst [V.int 0, V.int 0])) o (.lst [])) HX ∧ HX L = some (.lst (iv ((List.range i).map fun (k : Nat) => (k : Int))))) ⟨same_new nL _, upd_same⟩ (fun _ _ _ _ => trivial) ?_ ?_⟩
    · rintro i v HX HY hi ⟨sx, hX⟩ ⟨rfl, rfl⟩
      refine ⟨rfl, _, rfl, tick sx nL hX (fun _ _ e => e) (by show _ ++ [V.int (0 + (i : Int))] = _; rw [Int.zero_add]; exact mapR (fun (k : Nat) => (k : Int)) i) ?_⟩
      rw [iv_len, List.length_map, List.length_range]; unfold NN; omega
    rintro H7 ⟨s7, hL⟩
    rw [lu] at hL
    refine ⟨_, rfl, _, rfl, bl, _, _, _, rfl, rfl, SqL.of (s7 _ _ hbl6), atI_nat (j := 0) rfl, _, rfl, ?_⟩
    refine ⟨_, rfl, N, rfl, ⟨_, SqL.of (s7 _ _ hN6)⟩, fun F1 nF1 => lc_it (walk_list (K := K) (a := N) (xs := us)) (fun i HX => Same H7 HX ∧ HX F1 = some (.lst (iv ((qs.map (·.1)).take i)))) ⟨same_new nF1 _, upd_same⟩ (fun i HX _ h => SqL.of (h.1 _ _ (s7 _ _ hN6))) ?_ ?_⟩
    · rintro i v HX HY hi ⟨sx, hX⟩ ⟨rfl, hv⟩
      obtain ⟨tp, qq, eq, rfl, htp⟩ := hP6.get hv
      refine ⟨rfl, _, rfl, tp, _, _, _, rfl, rfl, .inl (.inl (sx _ _ (s7 _ _ htp))), atI_nat (j := 0) rfl, tick sx nF1 hX (fun _ _ e => e) ?_ ?_⟩
      · rw [List.take_add_one, List.getElem?_map, eq]; simp [iv]
      · rw [iv_len, List.length_take, List.length_map]; unfold NN; omega
    rintro H8 ⟨sH8, hF1⟩
    rw [ul, List.take_of_length_le (by rw [List.length_map]; omega)] at hF1
    have s68 := s7.trans sH8
    refine ⟨_, rfl, N, rfl, ⟨_, SqL.of (s68 _ _ hN6)⟩, fun F2 nF2 => lc_it (walk_list (K := K) (a := N) (xs := us)) (fun i HX => Same H8 HX ∧ HX F2 = some (.lst (iv ((qs.map (·.2)).take i)))) ⟨same_new nF2 _, upd_same⟩ (fun i HX _ h => SqL.of (h.1 _ _ (s68 _ _ hN6))) ?_ ?_⟩
    · rintro i v HX HY hi ⟨sx, hX⟩ ⟨rfl, hv⟩
      obtain ⟨tp, qq, eq, rfl, htp⟩ := hP6.get hv
      refine ⟨rfl, _, rfl, tp, _, _, _, rfl, rfl, .inl (.inl (sx _ _ (s68 _ _ htp))), atI_nat (j := 1) rfl, tick sx nF2 hX (fun _ _ e => e) ?_ ?_⟩
      · rw [List.take_add_one, List.getElem?_map, eq]; simp [iv]
      · rw [iv_len, List.length_take, List.length_map]; unfold NN; omega
    rintro H9 ⟨sH9, hF2⟩
    rw [ul, List.take_of_length_le (by rw [List.length_map]; omega)] at hF2
    have s69 := s68.trans sH9
    refine ⟨(by show 3 ≤ sizeLine; decide), fun ll nll => ?_⟩
    have s10 := same_new nll (.lst [V.ref L, V.ref F1, V.ref F2])
    have s6A := s69.trans s10
    have s4A := s46.trans s6A
    have old : ∀ {z : Addr} {o : HO}, H4 z = some o → z ∉ [cv] := fun {z o} e k => by rw [List.mem_singleton.mp k, ncv] at e; cases e
    have ncv6 : ∀ {z : Addr} {H' : Hp}, Same (upd (upd H4 cv (.lst [V.int 0, V.int 0])) o (.lst [])) H' → H' z = none → z ∉ [cv] := fun {z H'} sm e k => by rw [List.mem_singleton.mp k, sm _ _ hcv6] at e; cases e
    have vs : VecsAt K _ [L, F1, F2] (inps qs) := ⟨s10 _ _ (sH9 _ _ (sH8 _ _ hL)), s10 _ _ (sH9 _ _ hF1), s10 _ _ hF2, trivial⟩
    refine ⟨_, rfl, b2, ?_⟩
    have fA := fun z o (_ : z ∉ [cv]) e => s4A z o e
    have blA := s6A _ _ hbl6
    have nblc : bl ∉ [cv] := old (fr24 _ _ nbl hbl)
    have NC : N ∉ [cv] := old hN
    have rest : ∀ (due : V) (sN tN : Int) (H' : Hp), Fr [cv] (upd H9 ll (.lst [V.ref L, V.ref F1, V.ref F2])) H' → (due = .non ∨ H' cv = some (.lst [.int sN, .int tN])) → DueAt H' b1 b2 qs due sN tN → _ := fun due sN tN H' f' hcv' hd => qD (some (.ref p)) (some (.ref st)) (some (.ref L)) bl N cv x1 x2 due us qs b1 b2 sN tN H' (f' _ _ nblc blA) (((hb1'.fresh ncv).fr fA).fr f' |>.weak w1) (((hb2'.fresh ncv).fr fA).fr f' |>.weak w1) ok1 ok2 (f' _ _ NC (s6A _ _ hN6)) (((hP.fresh ncv).fr fA).fr f').at_ (by omega) hir hcv' hd
    have qne : qs ≠ [] := fun z => by
      have lu0 : us.length = 0 := by rw [lu, z]; rfl
      omega
    exact lmain_block (n := qs.length) ((hb1'.fresh ncv).fr fA) ((hb2'.fresh ncv).fr fA) blA nblc upd_same (ncv6 s69 nll) vs (by
      intro z hz
      simp only [List.mem_cons, List.not_mem_nil, or_false] at hz
      rcases hz with rfl | rfl | rfl
      · exact ncv6 (fun _ _ e => e) nL
      · exact ncv6 s7 nF1
      · exact ncv6 s68 nF2) rfl (s6A _ _ hcv6) ok1 ok2 (by omega) (by omega) (inps_ve hir (by omega)) (fun r er H' b5 f5 hcv5 hb5 _ => rest (.ref b5) r.2.1 r.2.2 H' f5 (.inr (by rw [Int.zero_add, Int.zero_add] at hcv5; exact hcv5)) (.inl ⟨b5, r.1, rfl, hb5, .inr ⟨qne, er⟩⟩)) (fun en H' f5 => rest .non 0 0 H' f5 (.inl rfl) (.inr ⟨qne, en, rfl⟩))
  · refine ifF (decide_eq_false (by omega)) ?_
    have q0 : qs = [] := List.length_eq_zero_iff.mp (by omega)
    exact qD _ _ _ bl N cv x1 x2 (.ref o) us qs b1 b2 0 0 _ hbl6 ((hb1'.fr (Fr.same s46)).weak w0) ((hb2'.fr (Fr.same s46)).weak w0) ok1 ok2 hN6 hP6 (by omega) hir (.inr hcv6) (.inl ⟨o, [], rfl, ho6, .inl ⟨q0, rfl, rfl, rfl⟩⟩)
end
end K11

namespace K11
open PySem PySem.Spec PyProof.Rows L2
/-! ### the top -/
theorem all_mk {l : PySem.W.OpenLaw} {w : World} {K : PySem.W.Frag} {h : Heap} {mg : Str → Option Value} {fa cFlatError cTrapError cStore f0 f1 f2 f3 cMachine f4 f5 f6 f7 f8 f9 f10 f11 f12 f13 f14 f15 f16 f17 f18 f19 f20 f21 f22 f23 f24 f25 f26 f27 f28 f29 f30 f31 f32 f33 f34 f35 f36 f37 f38 f39 f40 f41 f42 f43 f44 f45 f46 f47 f48 f49 f50 f51 f52 dOPERATIONS dINSTRUCTIONS : Addr} (X : K.In h) (G : h.Ns mainGlobals mg) (hfa : mg "law" = some (.ref fa))
    {od0 an0 : Option Addr} {sl0 : Array (Option Value)} {oc0 kV0 dc0 pm0 cd0 ct0 : Value}
    {od1 an1 : Option Addr} {sl1 : Array (Option Value)} {oc1 kV1 dc1 pm1 cd1 ct1 : Value}
    {od2 an2 : Option Addr} {sl2 : Array (Option Value)} {oc2 kV2 dc2 pm2 cd2 ct2 : Value}
    {od3 an3 : Option Addr} {sl3 : Array (Option Value)} {oc3 kV3 dc3 pm3 cd3 ct3 : Value}
    {od4 an4 : Option Addr} {sl4 : Array (Option Value)} {oc4 kV4 dc4 pm4 cd4 ct4 : Value}
    {od5 an5 : Option Addr} {sl5 : Array (Option Value)} {oc5 kV5 dc5 pm5 cd5 ct5 : Value}
    {od6 an6 : Option Addr} {sl6 : Array (Option Value)} {oc6 kV6 dc6 pm6 cd6 ct6 : Value}
    {od7 an7 : Option Addr} {sl7 : Array (Option Value)} {oc7 kV7 dc7 pm7 cd7 ct7 : Value}
    {od8 an8 : Option Addr} {sl8 : Array (Option Value)} {oc8 kV8 dc8 pm8 cd8 ct8 : Value}
    {od9 an9 : Option Addr} {sl9 : Array (Option Value)} {oc9 kV9 dc9 pm9 cd9 ct9 : Value}
    {od10 an10 : Option Addr} {sl10 : Array (Option Value)} {oc10 kV10 dc10 pm10 cd10 ct10 : Value}
    {od11 an11 : Option Addr} {sl11 : Array (Option Value)} {oc11 kV11 dc11 pm11 cd11 ct11 : Value}
    {od12 an12 : Option Addr} {sl12 : Array (Option Value)} {oc12 kV12 dc12 pm12 cd12 ct12 : Value}
    {od13 an13 : Option Addr} {sl13 : Array (Option Value)} {oc13 kV13 dc13 pm13 cd13 ct13 : Value}
    {od14 an14 : Option Addr} {sl14 : Array (Option Value)} {oc14 kV14 dc14 pm14 cd14 ct14 : Value}
    {od15 an15 : Option Addr} {sl15 : Array (Option Value)} {oc15 kV15 dc15 pm15 cd15 ct15 : Value}
    {od16 an16 : Option Addr} {sl16 : Array (Option Value)} {oc16 kV16 dc16 pm16 cd16 ct16 : Value}
    {od17 an17 : Option Addr} {sl17 : Array (Option Value)} {oc17 kV17 dc17 pm17 cd17 ct17 : Value}
    {od18 an18 : Option Addr} {sl18 : Array (Option Value)} {oc18 kV18 dc18 pm18 cd18 ct18 : Value}
    {od19 an19 : Option Addr} {sl19 : Array (Option Value)} {oc19 kV19 dc19 pm19 cd19 ct19 : Value}
    {od20 an20 : Option Addr} {sl20 : Array (Option Value)} {oc20 kV20 dc20 pm20 cd20 ct20 : Value}
    {od21 an21 : Option Addr} {sl21 : Array (Option Value)} {oc21 kV21 dc21 pm21 cd21 ct21 : Value}
    {od22 an22 : Option Addr} {sl22 : Array (Option Value)} {oc22 kV22 dc22 pm22 cd22 ct22 : Value}
    {od23 an23 : Option Addr} {sl23 : Array (Option Value)} {oc23 kV23 dc23 pm23 cd23 ct23 : Value}
    {od24 an24 : Option Addr} {sl24 : Array (Option Value)} {oc24 kV24 dc24 pm24 cd24 ct24 : Value}
    {od25 an25 : Option Addr} {sl25 : Array (Option Value)} {oc25 kV25 dc25 pm25 cd25 ct25 : Value}
    {od26 an26 : Option Addr} {sl26 : Array (Option Value)} {oc26 kV26 dc26 pm26 cd26 ct26 : Value}
    {od27 an27 : Option Addr} {sl27 : Array (Option Value)} {oc27 kV27 dc27 pm27 cd27 ct27 : Value}
    {od28 an28 : Option Addr} {sl28 : Array (Option Value)} {oc28 kV28 dc28 pm28 cd28 ct28 : Value}
    {od29 an29 : Option Addr} {sl29 : Array (Option Value)} {oc29 kV29 dc29 pm29 cd29 ct29 : Value}
    {od30 an30 : Option Addr} {sl30 : Array (Option Value)} {oc30 kV30 dc30 pm30 cd30 ct30 : Value}
    {od31 an31 : Option Addr} {sl31 : Array (Option Value)} {oc31 kV31 dc31 pm31 cd31 ct31 : Value}
    {od32 an32 : Option Addr} {sl32 : Array (Option Value)} {oc32 kV32 dc32 pm32 cd32 ct32 : Value}
    {od33 an33 : Option Addr} {sl33 : Array (Option Value)} {oc33 kV33 dc33 pm33 cd33 ct33 : Value}
    {od34 an34 : Option Addr} {sl34 : Array (Option Value)} {oc34 kV34 dc34 pm34 cd34 ct34 : Value}
    {od35 an35 : Option Addr} {sl35 : Array (Option Value)} {oc35 kV35 dc35 pm35 cd35 ct35 : Value}
    {od36 an36 : Option Addr} {sl36 : Array (Option Value)} {oc36 kV36 dc36 pm36 cd36 ct36 : Value}
    {od37 an37 : Option Addr} {sl37 : Array (Option Value)} {oc37 kV37 dc37 pm37 cd37 ct37 : Value}
    {od38 an38 : Option Addr} {sl38 : Array (Option Value)} {oc38 kV38 dc38 pm38 cd38 ct38 : Value}
    {od39 an39 : Option Addr} {sl39 : Array (Option Value)} {oc39 kV39 dc39 pm39 cd39 ct39 : Value}
    {od40 an40 : Option Addr} {sl40 : Array (Option Value)} {oc40 kV40 dc40 pm40 cd40 ct40 : Value}
    {od41 an41 : Option Addr} {sl41 : Array (Option Value)} {oc41 kV41 dc41 pm41 cd41 ct41 : Value}
    {od42 an42 : Option Addr} {sl42 : Array (Option Value)} {oc42 kV42 dc42 pm42 cd42 ct42 : Value}
    {od43 an43 : Option Addr} {sl43 : Array (Option Value)} {oc43 kV43 dc43 pm43 cd43 ct43 : Value}
    {od44 an44 : Option Addr} {sl44 : Array (Option Value)} {oc44 kV44 dc44 pm44 cd44 ct44 : Value}
    {od45 an45 : Option Addr} {sl45 : Array (Option Value)} {oc45 kV45 dc45 pm45 cd45 ct45 : Value}
    {od46 an46 : Option Addr} {sl46 : Array (Option Value)} {oc46 kV46 dc46 pm46 cd46 ct46 : Value}
    {od47 an47 : Option Addr} {sl47 : Array (Option Value)} {oc47 kV47 dc47 pm47 cd47 ct47 : Value}
    {od48 an48 : Option Addr} {sl48 : Array (Option Value)} {oc48 kV48 dc48 pm48 cd48 ct48 : Value}
    {od49 an49 : Option Addr} {sl49 : Array (Option Value)} {oc49 kV49 dc49 pm49 cd49 ct49 : Value}
    {od50 an50 : Option Addr} {sl50 : Array (Option Value)} {oc50 kV50 dc50 pm50 cd50 ct50 : Value}
    {od51 an51 : Option Addr} {sl51 : Array (Option Value)} {oc51 kV51 dc51 pm51 cd51 ct51 : Value}
    {od52 an52 : Option Addr} {sl52 : Array (Option Value)} {oc52 kV52 dc52 pm52 cd52 ct52 : Value}
    {t_HALF : Tok}
    {t_SPAN : Tok}
    {t_RANGE_LIMIT : Tok}
    {t_BLOCK_LIMIT : Tok}
    {esOPERATIONS : Array DictEntry} {nnOPERATIONS : Nat}
    {esINSTRUCTIONS : Array DictEntry} {nnINSTRUCTIONS : Nat}
    (g_FlatError : PySem.W.nsIn K mainGlobals "FlatError" = some (some (.ref cFlatError)))
    (g_TrapError : PySem.W.nsIn K mainGlobals "TrapError" = some (some (.ref cTrapError)))
    (x_TrapError : PySem.W.excIn K cTrapError [.type "ValueError", .type "Exception", .type "BaseException", .type "object"] "ValueError.__new__" = true)
    (xk_TrapError : PySem.W.keepIn K (.ref cTrapError) = true)
    (xb_TrapError : PySem.W.subIn K (.ref cTrapError) (.type "BaseException") = some true)
    (xt_TrapError : PySem.W.typeIn K (.ref cTrapError) = some (.type "type"))
    (xi_TrapError : PySem.W.isClsIn K cTrapError = true)
    (xs_TrapError : PySem.W.subIn K (.ref cTrapError) (.ref cTrapError) = some true)
    (g_Store : PySem.W.nsIn K mainGlobals "Store" = some (some (.ref cStore)))
    (pg_Store : PySem.W.plainGet K cStore Str.empty = true)
    (hd_Store : PySem.W.hasDictIn K cStore = true)
    (po_Store : PySem.W.plainOver K cStore = true)
    (sa_Store : PySem.W.findIn K (.ref cStore) "__setattr__" = some (some (.builtin "object.__setattr__")))
    (mk_Store : PySem.W.makesIn K cStore = true)
    (kc_Store : PySem.W.keepIn K (.ref cStore) = true)
    (n_Store_slots : PySem.W.findIn K (.ref cStore) "slots" = some none)
    (n_Store_vectors : PySem.W.findIn K (.ref cStore) "vectors" = some none)
    (a0 : PySem.W.findIn K (.ref cStore) "__init__" = some (some (.ref f0)))
    (i0 : PySem.W.isFn K (.ref f0) = true)
    (l0 : K.lookup f0 = some ⟨oc0, od0, .func (PySem.W.fnOf "__init__" "Store.__init__" (defArgs s_Store___init__) (defBody s_Store___init__) (defScope s_Store___init__) .none kV0 dc0 pm0 an0 cd0 ct0), sl0⟩)
    (c0 : PySem.W.codeIn K cd0 "Store.__init__" = true)
    (k0 : PySem.W.keepIn K (.ref f0) = true)
    (a1 : PySem.W.findIn K (.ref cStore) "place" = some (some (.ref f1)))
    (i1 : PySem.W.isFn K (.ref f1) = true)
    (l1 : K.lookup f1 = some ⟨oc1, od1, .func (PySem.W.fnOf "place" "Store.place" (defArgs s_Store_place) (defBody s_Store_place) (defScope s_Store_place) .none kV1 dc1 pm1 an1 cd1 ct1), sl1⟩)
    (c1 : PySem.W.codeIn K cd1 "Store.place" = true)
    (k1 : PySem.W.keepIn K (.ref f1) = true)
    (a2 : PySem.W.findIn K (.ref cStore) "read" = some (some (.ref f2)))
    (i2 : PySem.W.isFn K (.ref f2) = true)
    (l2 : K.lookup f2 = some ⟨oc2, od2, .func (PySem.W.fnOf "read" "Store.read" (defArgs s_Store_read) (defBody s_Store_read) (defScope s_Store_read) .none kV2 dc2 pm2 an2 cd2 ct2), sl2⟩)
    (c2 : PySem.W.codeIn K cd2 "Store.read" = true)
    (k2 : PySem.W.keepIn K (.ref f2) = true)
    (a3 : PySem.W.findIn K (.ref cStore) "write" = some (some (.ref f3)))
    (i3 : PySem.W.isFn K (.ref f3) = true)
    (l3 : K.lookup f3 = some ⟨oc3, od3, .func (PySem.W.fnOf "write" "Store.write" (defArgs s_Store_write) (defBody s_Store_write) (defScope s_Store_write) .none kV3 dc3 pm3 an3 cd3 ct3), sl3⟩)
    (c3 : PySem.W.codeIn K cd3 "Store.write" = true)
    (k3 : PySem.W.keepIn K (.ref f3) = true)
    (g_Machine : PySem.W.nsIn K mainGlobals "Machine" = some (some (.ref cMachine)))
    (pg_Machine : PySem.W.plainGet K cMachine Str.empty = true)
    (hd_Machine : PySem.W.hasDictIn K cMachine = true)
    (po_Machine : PySem.W.plainOver K cMachine = true)
    (sa_Machine : PySem.W.findIn K (.ref cMachine) "__setattr__" = some (some (.builtin "object.__setattr__")))
    (mk_Machine : PySem.W.makesIn K cMachine = true)
    (kc_Machine : PySem.W.keepIn K (.ref cMachine) = true)
    (n_Machine_blocks : PySem.W.findIn K (.ref cMachine) "blocks" = some none)
    (n_Machine_plans : PySem.W.findIn K (.ref cMachine) "plans" = some none)
    (n_Machine_steps : PySem.W.findIn K (.ref cMachine) "steps" = some none)
    (n_Machine_touches : PySem.W.findIn K (.ref cMachine) "touches" = some none)
    (n_Machine_depth : PySem.W.findIn K (.ref cMachine) "depth" = some none)
    (a4 : PySem.W.findIn K (.ref cMachine) "__init__" = some (some (.ref f4)))
    (i4 : PySem.W.isFn K (.ref f4) = true)
    (l4 : K.lookup f4 = some ⟨oc4, od4, .func (PySem.W.fnOf "__init__" "Machine.__init__" (defArgs s_Machine___init__) (defBody s_Machine___init__) (defScope s_Machine___init__) .none kV4 dc4 pm4 an4 cd4 ct4), sl4⟩)
    (c4 : PySem.W.codeIn K cd4 "Machine.__init__" = true)
    (k4 : PySem.W.keepIn K (.ref f4) = true)
    (a5 : PySem.W.findIn K (.ref cMachine) "results_for" = some (some (.ref f5)))
    (i5 : PySem.W.isFn K (.ref f5) = true)
    (l5 : K.lookup f5 = some ⟨oc5, od5, .func (PySem.W.fnOf "results_for" "Machine.results_for" (defArgs s_Machine_results_for) (defBody s_Machine_results_for) (defScope s_Machine_results_for) .none kV5 dc5 pm5 an5 cd5 ct5), sl5⟩)
    (c5 : PySem.W.codeIn K cd5 "Machine.results_for" = true)
    (k5 : PySem.W.keepIn K (.ref f5) = true)
    (a6 : PySem.W.findIn K (.ref cMachine) "run_block" = some (some (.ref f6)))
    (i6 : PySem.W.isFn K (.ref f6) = true)
    (l6 : K.lookup f6 = some ⟨oc6, od6, .func (PySem.W.fnOf "run_block" "Machine.run_block" (defArgs s_Machine_run_block) (defBody s_Machine_run_block) (defScope s_Machine_run_block) .none kV6 dc6 pm6 an6 cd6 ct6), sl6⟩)
    (c6 : PySem.W.codeIn K cd6 "Machine.run_block" = true)
    (k6 : PySem.W.keepIn K (.ref f6) = true)
    (a7 : PySem.W.findIn K (.ref cMachine) "run_instruction" = some (some (.ref f7)))
    (i7 : PySem.W.isFn K (.ref f7) = true)
    (l7 : K.lookup f7 = some ⟨oc7, od7, .func (PySem.W.fnOf "run_instruction" "Machine.run_instruction" (defArgs s_Machine_run_instruction) (defBody s_Machine_run_instruction) (defScope s_Machine_run_instruction) .none kV7 dc7 pm7 an7 cd7 ct7), sl7⟩)
    (c7 : PySem.W.codeIn K cd7 "Machine.run_instruction" = true)
    (k7 : PySem.W.keepIn K (.ref f7) = true)
    (a8 : PySem.W.findIn K (.ref cMachine) "run_call" = some (some (.ref f8)))
    (i8 : PySem.W.isFn K (.ref f8) = true)
    (l8 : K.lookup f8 = some ⟨oc8, od8, .func (PySem.W.fnOf "run_call" "Machine.run_call" (defArgs s_Machine_run_call) (defBody s_Machine_run_call) (defScope s_Machine_run_call) .none kV8 dc8 pm8 an8 cd8 ct8), sl8⟩)
    (c8 : PySem.W.codeIn K cd8 "Machine.run_call" = true)
    (k8 : PySem.W.keepIn K (.ref f8) = true)
    (a9 : PySem.W.nsIn K mainGlobals "vectors_of" = some (some (.ref f9)))
    (l9 : K.lookup f9 = some ⟨oc9, od9, .func (PySem.W.fnOf "vectors_of" "vectors_of" (defArgs s_vectors_of) (defBody s_vectors_of) (defScope s_vectors_of) .none kV9 dc9 pm9 an9 cd9 ct9), sl9⟩)
    (c9 : PySem.W.codeIn K cd9 "vectors_of" = true)
    (k9 : PySem.W.keepIn K (.ref f9) = true)
    (a10 : PySem.W.nsIn K mainGlobals "values_of" = some (some (.ref f10)))
    (l10 : K.lookup f10 = some ⟨oc10, od10, .func (PySem.W.fnOf "values_of" "values_of" (defArgs s_values_of) (defBody s_values_of) (defScope s_values_of) .none kV10 dc10 pm10 an10 cd10 ct10), sl10⟩)
    (c10 : PySem.W.codeIn K cd10 "values_of" = true)
    (k10 : PySem.W.keepIn K (.ref f10) = true)
    (a11 : PySem.W.nsIn K mainGlobals "forms_of" = some (some (.ref f11)))
    (l11 : K.lookup f11 = some ⟨oc11, od11, .func (PySem.W.fnOf "forms_of" "forms_of" (defArgs s_forms_of) (defBody s_forms_of) (defScope s_forms_of) .none kV11 dc11 pm11 an11 cd11 ct11), sl11⟩)
    (c11 : PySem.W.codeIn K cd11 "forms_of" = true)
    (k11 : PySem.W.keepIn K (.ref f11) = true)
    (a12 : PySem.W.nsIn K mainGlobals "cut" = some (some (.ref f12)))
    (l12 : K.lookup f12 = some ⟨oc12, od12, .func (PySem.W.fnOf "cut" "cut" (defArgs s_cut) (defBody s_cut) (defScope s_cut) .none kV12 dc12 pm12 an12 cd12 ct12), sl12⟩)
    (c12 : PySem.W.codeIn K cd12 "cut" = true)
    (k12 : PySem.W.keepIn K (.ref f12) = true)
    (a13 : PySem.W.nsIn K mainGlobals "wrapped" = some (some (.ref f13)))
    (l13 : K.lookup f13 = some ⟨oc13, od13, .func (PySem.W.fnOf "wrapped" "wrapped" (defArgs s_wrapped) (defBody s_wrapped) (defScope s_wrapped) .none kV13 dc13 pm13 an13 cd13 ct13), sl13⟩)
    (c13 : PySem.W.codeIn K cd13 "wrapped" = true)
    (k13 : PySem.W.keepIn K (.ref f13) = true)
    (a14 : PySem.W.nsIn K mainGlobals "added" = some (some (.ref f14)))
    (l14 : K.lookup f14 = some ⟨oc14, od14, .func (PySem.W.fnOf "added" "added" (defArgs s_added) (defBody s_added) (defScope s_added) .none kV14 dc14 pm14 an14 cd14 ct14), sl14⟩)
    (c14 : PySem.W.codeIn K cd14 "added" = true)
    (k14 : PySem.W.keepIn K (.ref f14) = true)
    (a15 : PySem.W.nsIn K mainGlobals "subtracted" = some (some (.ref f15)))
    (l15 : K.lookup f15 = some ⟨oc15, od15, .func (PySem.W.fnOf "subtracted" "subtracted" (defArgs s_subtracted) (defBody s_subtracted) (defScope s_subtracted) .none kV15 dc15 pm15 an15 cd15 ct15), sl15⟩)
    (c15 : PySem.W.codeIn K cd15 "subtracted" = true)
    (k15 : PySem.W.keepIn K (.ref f15) = true)
    (a16 : PySem.W.nsIn K mainGlobals "multiplied" = some (some (.ref f16)))
    (l16 : K.lookup f16 = some ⟨oc16, od16, .func (PySem.W.fnOf "multiplied" "multiplied" (defArgs s_multiplied) (defBody s_multiplied) (defScope s_multiplied) .none kV16 dc16 pm16 an16 cd16 ct16), sl16⟩)
    (c16 : PySem.W.codeIn K cd16 "multiplied" = true)
    (k16 : PySem.W.keepIn K (.ref f16) = true)
    (a17 : PySem.W.nsIn K mainGlobals "quotient" = some (some (.ref f17)))
    (l17 : K.lookup f17 = some ⟨oc17, od17, .func (PySem.W.fnOf "quotient" "quotient" (defArgs s_quotient) (defBody s_quotient) (defScope s_quotient) .none kV17 dc17 pm17 an17 cd17 ct17), sl17⟩)
    (c17 : PySem.W.codeIn K cd17 "quotient" = true)
    (k17 : PySem.W.keepIn K (.ref f17) = true)
    (a18 : PySem.W.nsIn K mainGlobals "remainder" = some (some (.ref f18)))
    (l18 : K.lookup f18 = some ⟨oc18, od18, .func (PySem.W.fnOf "remainder" "remainder" (defArgs s_remainder) (defBody s_remainder) (defScope s_remainder) .none kV18 dc18 pm18 an18 cd18 ct18), sl18⟩)
    (c18 : PySem.W.codeIn K cd18 "remainder" = true)
    (k18 : PySem.W.keepIn K (.ref f18) = true)
    (a19 : PySem.W.nsIn K mainGlobals "smaller" = some (some (.ref f19)))
    (l19 : K.lookup f19 = some ⟨oc19, od19, .func (PySem.W.fnOf "smaller" "smaller" (defArgs s_smaller) (defBody s_smaller) (defScope s_smaller) .none kV19 dc19 pm19 an19 cd19 ct19), sl19⟩)
    (c19 : PySem.W.codeIn K cd19 "smaller" = true)
    (k19 : PySem.W.keepIn K (.ref f19) = true)
    (a20 : PySem.W.nsIn K mainGlobals "larger" = some (some (.ref f20)))
    (l20 : K.lookup f20 = some ⟨oc20, od20, .func (PySem.W.fnOf "larger" "larger" (defArgs s_larger) (defBody s_larger) (defScope s_larger) .none kV20 dc20 pm20 an20 cd20 ct20), sl20⟩)
    (c20 : PySem.W.codeIn K cd20 "larger" = true)
    (k20 : PySem.W.keepIn K (.ref f20) = true)
    (a21 : PySem.W.nsIn K mainGlobals "is_less" = some (some (.ref f21)))
    (l21 : K.lookup f21 = some ⟨oc21, od21, .func (PySem.W.fnOf "is_less" "is_less" (defArgs s_is_less) (defBody s_is_less) (defScope s_is_less) .none kV21 dc21 pm21 an21 cd21 ct21), sl21⟩)
    (c21 : PySem.W.codeIn K cd21 "is_less" = true)
    (k21 : PySem.W.keepIn K (.ref f21) = true)
    (a22 : PySem.W.nsIn K mainGlobals "is_equal" = some (some (.ref f22)))
    (l22 : K.lookup f22 = some ⟨oc22, od22, .func (PySem.W.fnOf "is_equal" "is_equal" (defArgs s_is_equal) (defBody s_is_equal) (defScope s_is_equal) .none kV22 dc22 pm22 an22 cd22 ct22), sl22⟩)
    (c22 : PySem.W.codeIn K cd22 "is_equal" = true)
    (k22 : PySem.W.keepIn K (.ref f22) = true)
    (a23 : PySem.W.nsIn K mainGlobals "calculate" = some (some (.ref f23)))
    (l23 : K.lookup f23 = some ⟨oc23, od23, .func (PySem.W.fnOf "calculate" "calculate" (defArgs s_calculate) (defBody s_calculate) (defScope s_calculate) .none kV23 dc23 pm23 an23 cd23 ct23), sl23⟩)
    (c23 : PySem.W.codeIn K cd23 "calculate" = true)
    (k23 : PySem.W.keepIn K (.ref f23) = true)
    (a24 : PySem.W.nsIn K mainGlobals "execute" = some (some (.ref f24)))
    (l24 : K.lookup f24 = some ⟨oc24, od24, .func (PySem.W.fnOf "execute" "execute" (defArgs s_execute) (defBody s_execute) (defScope s_execute) .none kV24 dc24 pm24 an24 cd24 ct24), sl24⟩)
    (c24 : PySem.W.codeIn K cd24 "execute" = true)
    (k24 : PySem.W.keepIn K (.ref f24) = true)
    (a25 : PySem.W.nsIn K mainGlobals "starts_of" = some (some (.ref f25)))
    (l25 : K.lookup f25 = some ⟨oc25, od25, .func (PySem.W.fnOf "starts_of" "starts_of" (defArgs s_starts_of) (defBody s_starts_of) (defScope s_starts_of) .none kV25 dc25 pm25 an25 cd25 ct25), sl25⟩)
    (c25 : PySem.W.codeIn K cd25 "starts_of" = true)
    (k25 : PySem.W.keepIn K (.ref f25) = true)
    (a26 : PySem.W.nsIn K mainGlobals "fill" = some (some (.ref f26)))
    (l26 : K.lookup f26 = some ⟨oc26, od26, .func (PySem.W.fnOf "fill" "fill" (defArgs s_fill) (defBody s_fill) (defScope s_fill) .none kV26 dc26 pm26 an26 cd26 ct26), sl26⟩)
    (c26 : PySem.W.codeIn K cd26 "fill" = true)
    (k26 : PySem.W.keepIn K (.ref f26) = true)
    (a27 : PySem.W.nsIn K mainGlobals "calc" = some (some (.ref f27)))
    (l27 : K.lookup f27 = some ⟨oc27, od27, .func (PySem.W.fnOf "calc" "calc" (defArgs s_calc) (defBody s_calc) (defScope s_calc) .none kV27 dc27 pm27 an27 cd27 ct27), sl27⟩)
    (c27 : PySem.W.codeIn K cd27 "calc" = true)
    (k27 : PySem.W.keepIn K (.ref f27) = true)
    (a28 : PySem.W.nsIn K mainGlobals "take" = some (some (.ref f28)))
    (l28 : K.lookup f28 = some ⟨oc28, od28, .func (PySem.W.fnOf "take" "take" (defArgs s_take) (defBody s_take) (defScope s_take) .none kV28 dc28 pm28 an28 cd28 ct28), sl28⟩)
    (c28 : PySem.W.codeIn K cd28 "take" = true)
    (k28 : PySem.W.keepIn K (.ref f28) = true)
    (a29 : PySem.W.nsIn K mainGlobals "pick" = some (some (.ref f29)))
    (l29 : K.lookup f29 = some ⟨oc29, od29, .func (PySem.W.fnOf "pick" "pick" (defArgs s_pick) (defBody s_pick) (defScope s_pick) .none kV29 dc29 pm29 an29 cd29 ct29), sl29⟩)
    (c29 : PySem.W.codeIn K cd29 "pick" = true)
    (k29 : PySem.W.keepIn K (.ref f29) = true)
    (a30 : PySem.W.nsIn K mainGlobals "repeat" = some (some (.ref f30)))
    (l30 : K.lookup f30 = some ⟨oc30, od30, .func (PySem.W.fnOf "repeat" "repeat" (defArgs s_repeat) (defBody s_repeat) (defScope s_repeat) .none kV30 dc30 pm30 an30 cd30 ct30), sl30⟩)
    (c30 : PySem.W.codeIn K cd30 "repeat" = true)
    (k30 : PySem.W.keepIn K (.ref f30) = true)
    (a31 : PySem.W.nsIn K mainGlobals "count" = some (some (.ref f31)))
    (l31 : K.lookup f31 = some ⟨oc31, od31, .func (PySem.W.fnOf "count" "count" (defArgs s_count) (defBody s_count) (defScope s_count) .none kV31 dc31 pm31 an31 cd31 ct31), sl31⟩)
    (c31 : PySem.W.codeIn K cd31 "count" = true)
    (k31 : PySem.W.keepIn K (.ref f31) = true)
    (a32 : PySem.W.nsIn K mainGlobals "where" = some (some (.ref f32)))
    (l32 : K.lookup f32 = some ⟨oc32, od32, .func (PySem.W.fnOf "where" "where" (defArgs s_where) (defBody s_where) (defScope s_where) .none kV32 dc32 pm32 an32 cd32 ct32), sl32⟩)
    (c32 : PySem.W.codeIn K cd32 "where" = true)
    (k32 : PySem.W.keepIn K (.ref f32) = true)
    (a33 : PySem.W.nsIn K mainGlobals "weave" = some (some (.ref f33)))
    (l33 : K.lookup f33 = some ⟨oc33, od33, .func (PySem.W.fnOf "weave" "weave" (defArgs s_weave) (defBody s_weave) (defScope s_weave) .none kV33 dc33 pm33 an33 cd33 ct33), sl33⟩)
    (c33 : PySem.W.codeIn K cd33 "weave" = true)
    (k33 : PySem.W.keepIn K (.ref f33) = true)
    (a34 : PySem.W.nsIn K mainGlobals "join" = some (some (.ref f34)))
    (l34 : K.lookup f34 = some ⟨oc34, od34, .func (PySem.W.fnOf "join" "join" (defArgs s_join) (defBody s_join) (defScope s_join) .none kV34 dc34 pm34 an34 cd34 ct34), sl34⟩)
    (c34 : PySem.W.codeIn K cd34 "join" = true)
    (k34 : PySem.W.keepIn K (.ref f34) = true)
    (a35 : PySem.W.nsIn K mainGlobals "sums" = some (some (.ref f35)))
    (l35 : K.lookup f35 = some ⟨oc35, od35, .func (PySem.W.fnOf "sums" "sums" (defArgs s_sums) (defBody s_sums) (defScope s_sums) .none kV35 dc35 pm35 an35 cd35 ct35), sl35⟩)
    (c35 : PySem.W.codeIn K cd35 "sums" = true)
    (k35 : PySem.W.keepIn K (.ref f35) = true)
    (a36 : PySem.W.nsIn K mainGlobals "zip_segments" = some (some (.ref f36)))
    (l36 : K.lookup f36 = some ⟨oc36, od36, .func (PySem.W.fnOf "zip_segments" "zip_segments" (defArgs s_zip_segments) (defBody s_zip_segments) (defScope s_zip_segments) .none kV36 dc36 pm36 an36 cd36 ct36), sl36⟩)
    (c36 : PySem.W.codeIn K cd36 "zip_segments" = true)
    (k36 : PySem.W.keepIn K (.ref f36) = true)
    (a37 : PySem.W.nsIn K mainGlobals "place" = some (some (.ref f37)))
    (l37 : K.lookup f37 = some ⟨oc37, od37, .func (PySem.W.fnOf "place" "place" (defArgs s_place) (defBody s_place) (defScope s_place) .none kV37 dc37 pm37 an37 cd37 ct37), sl37⟩)
    (c37 : PySem.W.codeIn K cd37 "place" = true)
    (k37 : PySem.W.keepIn K (.ref f37) = true)
    (a38 : PySem.W.nsIn K mainGlobals "need_range" = some (some (.ref f38)))
    (l38 : K.lookup f38 = some ⟨oc38, od38, .func (PySem.W.fnOf "need_range" "need_range" (defArgs s_need_range) (defBody s_need_range) (defScope s_need_range) .none kV38 dc38 pm38 an38 cd38 ct38), sl38⟩)
    (c38 : PySem.W.codeIn K cd38 "need_range" = true)
    (k38 : PySem.W.keepIn K (.ref f38) = true)
    (a39 : PySem.W.nsIn K mainGlobals "need_same" = some (some (.ref f39)))
    (l39 : K.lookup f39 = some ⟨oc39, od39, .func (PySem.W.fnOf "need_same" "need_same" (defArgs s_need_same) (defBody s_need_same) (defScope s_need_same) .none kV39 dc39 pm39 an39 cd39 ct39), sl39⟩)
    (c39 : PySem.W.codeIn K cd39 "need_same" = true)
    (k39 : PySem.W.keepIn K (.ref f39) = true)
    (a40 : PySem.W.nsIn K mainGlobals "flags" = some (some (.ref f40)))
    (l40 : K.lookup f40 = some ⟨oc40, od40, .func (PySem.W.fnOf "flags" "flags" (defArgs s_flags) (defBody s_flags) (defScope s_flags) .none kV40 dc40 pm40 an40 cd40 ct40), sl40⟩)
    (c40 : PySem.W.codeIn K cd40 "flags" = true)
    (k40 : PySem.W.keepIn K (.ref f40) = true)
    (a41 : PySem.W.nsIn K mainGlobals "run" = some (some (.ref f41)))
    (l41 : K.lookup f41 = some ⟨oc41, od41, .func (PySem.W.fnOf "run" "run" (defArgs s_run) (defBody s_run) (defScope s_run) .none kV41 dc41 pm41 an41 cd41 ct41), sl41⟩)
    (c41 : PySem.W.codeIn K cd41 "run" = true)
    (k41 : PySem.W.keepIn K (.ref f41) = true)
    (a42 : PySem.W.nsIn K mainGlobals "_law_state" = some (some (.ref f42)))
    (l42 : K.lookup f42 = some ⟨oc42, od42, .func (PySem.W.fnOf "_law_state" "_law_state" (defArgs s_law_state) (defBody s_law_state) (defScope s_law_state) .none kV42 dc42 pm42 an42 cd42 ct42), sl42⟩)
    (c42 : PySem.W.codeIn K cd42 "_law_state" = true)
    (k42 : PySem.W.keepIn K (.ref f42) = true)
    (a43 : PySem.W.nsIn K mainGlobals "_law_draw" = some (some (.ref f43)))
    (l43 : K.lookup f43 = some ⟨oc43, od43, .func (PySem.W.fnOf "_law_draw" "_law_draw" (defArgs s_law_draw) (defBody s_law_draw) (defScope s_law_draw) .none kV43 dc43 pm43 an43 cd43 ct43), sl43⟩)
    (c43 : PySem.W.codeIn K cd43 "_law_draw" = true)
    (k43 : PySem.W.keepIn K (.ref f43) = true)
    (a44 : PySem.W.nsIn K mainGlobals "_law_pick" = some (some (.ref f44)))
    (l44 : K.lookup f44 = some ⟨oc44, od44, .func (PySem.W.fnOf "_law_pick" "_law_pick" (defArgs s_law_pick) (defBody s_law_pick) (defScope s_law_pick) .none kV44 dc44 pm44 an44 cd44 ct44), sl44⟩)
    (c44 : PySem.W.codeIn K cd44 "_law_pick" = true)
    (k44 : PySem.W.keepIn K (.ref f44) = true)
    (a45 : PySem.W.nsIn K mainGlobals "_law_number" = some (some (.ref f45)))
    (l45 : K.lookup f45 = some ⟨oc45, od45, .func (PySem.W.fnOf "_law_number" "_law_number" (defArgs s_law_number) (defBody s_law_number) (defScope s_law_number) .none kV45 dc45 pm45 an45 cd45 ct45), sl45⟩)
    (c45 : PySem.W.codeIn K cd45 "_law_number" = true)
    (k45 : PySem.W.keepIn K (.ref f45) = true)
    (a46 : PySem.W.nsIn K mainGlobals "_law_code" = some (some (.ref f46)))
    (l46 : K.lookup f46 = some ⟨oc46, od46, .func (PySem.W.fnOf "_law_code" "_law_code" (defArgs s_law_code) (defBody s_law_code) (defScope s_law_code) .none kV46 dc46 pm46 an46 cd46 ct46), sl46⟩)
    (c46 : PySem.W.codeIn K cd46 "_law_code" = true)
    (k46 : PySem.W.keepIn K (.ref f46) = true)
    (a47 : PySem.W.nsIn K mainGlobals "_law_blocks" = some (some (.ref f47)))
    (l47 : K.lookup f47 = some ⟨oc47, od47, .func (PySem.W.fnOf "_law_blocks" "_law_blocks" (defArgs s_law_blocks) (defBody s_law_blocks) (defScope s_law_blocks) .none kV47 dc47 pm47 an47 cd47 ct47), sl47⟩)
    (c47 : PySem.W.codeIn K cd47 "_law_blocks" = true)
    (k47 : PySem.W.keepIn K (.ref f47) = true)
    (a48 : PySem.W.nsIn K mainGlobals "_law_wrap" = some (some (.ref f48)))
    (l48 : K.lookup f48 = some ⟨oc48, od48, .func (PySem.W.fnOf "_law_wrap" "_law_wrap" (defArgs s_law_wrap) (defBody s_law_wrap) (defScope s_law_wrap) .none kV48 dc48 pm48 an48 cd48 ct48), sl48⟩)
    (c48 : PySem.W.codeIn K cd48 "_law_wrap" = true)
    (k48 : PySem.W.keepIn K (.ref f48) = true)
    (a49 : PySem.W.nsIn K mainGlobals "_law_calc" = some (some (.ref f49)))
    (l49 : K.lookup f49 = some ⟨oc49, od49, .func (PySem.W.fnOf "_law_calc" "_law_calc" (defArgs s_law_calc) (defBody s_law_calc) (defScope s_law_calc) .none kV49 dc49 pm49 an49 cd49 ct49), sl49⟩)
    (c49 : PySem.W.codeIn K cd49 "_law_calc" = true)
    (k49 : PySem.W.keepIn K (.ref f49) = true)
    (a50 : PySem.W.nsIn K mainGlobals "_law_execute" = some (some (.ref f50)))
    (l50 : K.lookup f50 = some ⟨oc50, od50, .func (PySem.W.fnOf "_law_execute" "_law_execute" (defArgs s_law_execute) (defBody s_law_execute) (defScope s_law_execute) .none kV50 dc50 pm50 an50 cd50 ct50), sl50⟩)
    (c50 : PySem.W.codeIn K cd50 "_law_execute" = true)
    (k50 : PySem.W.keepIn K (.ref f50) = true)
    (a51 : PySem.W.nsIn K mainGlobals "_law_block" = some (some (.ref f51)))
    (l51 : K.lookup f51 = some ⟨oc51, od51, .func (PySem.W.fnOf "_law_block" "_law_block" (defArgs s_law_block) (defBody s_law_block) (defScope s_law_block) .none kV51 dc51 pm51 an51 cd51 ct51), sl51⟩)
    (c51 : PySem.W.codeIn K cd51 "_law_block" = true)
    (k51 : PySem.W.keepIn K (.ref f51) = true)
    (a52 : PySem.W.nsIn K mainGlobals "law" = some (some (.ref f52)))
    (l52 : K.lookup f52 = some ⟨oc52, od52, .func (PySem.W.fnOf "law" "law" (defArgs s_law) (defBody s_law) (defScope s_law) .none kV52 dc52 pm52 an52 cd52 ct52), sl52⟩)
    (c52 : PySem.W.codeIn K cd52 "law" = true)
    (k52 : PySem.W.keepIn K (.ref f52) = true)
    (b_reversed : PySem.W.nsIn K mainGlobals "reversed" = some none)
    (b_len : PySem.W.nsIn K mainGlobals "len" = some none)
    (b_abs : PySem.W.nsIn K mainGlobals "abs" = some none)
    (b_int : PySem.W.nsIn K mainGlobals "int" = some none)
    (b_min : PySem.W.nsIn K mainGlobals "min" = some none)
    (b_max : PySem.W.nsIn K mainGlobals "max" = some none)
    (b_isinstance : PySem.W.nsIn K mainGlobals "isinstance" = some none)
    (b_range : PySem.W.nsIn K mainGlobals "range" = some none)
    (b_zip : PySem.W.nsIn K mainGlobals "zip" = some none)
    (b_enumerate : PySem.W.nsIn K mainGlobals "enumerate" = some none)
    (b_list : PySem.W.nsIn K mainGlobals "list" = some none)
    (b_sum : PySem.W.nsIn K mainGlobals "sum" = some none)
    (b_repr : PySem.W.nsIn K mainGlobals "repr" = some none)
    (h_HALF : PySem.W.nsIn K mainGlobals "HALF" = some (some (.int 2147483648 t_HALF)))
    (h_SPAN : PySem.W.nsIn K mainGlobals "SPAN" = some (some (.int 4294967296 t_SPAN)))
    (h_RANGE_LIMIT : PySem.W.nsIn K mainGlobals "RANGE_LIMIT" = some (some (.int 1000 t_RANGE_LIMIT)))
    (h_BLOCK_LIMIT : PySem.W.nsIn K mainGlobals "BLOCK_LIMIT" = some (some (.int 40 t_BLOCK_LIMIT)))
    (g_OPERATIONS : PySem.W.nsIn K mainGlobals "OPERATIONS" = some (some (.ref dOPERATIONS)))
    (dl_OPERATIONS : K.lookup dOPERATIONS = some ⟨.type "dict", none, .dict esOPERATIONS nnOPERATIONS, #[]⟩)
    (dk_OPERATIONS : PySem.W.KeysLit w.params esOPERATIONS.toList)
    (d0_OPERATIONS : PySem.W.nsIn K dOPERATIONS "+" = some (some (.ref f14)))
    (d1_OPERATIONS : PySem.W.nsIn K dOPERATIONS "-" = some (some (.ref f15)))
    (d2_OPERATIONS : PySem.W.nsIn K dOPERATIONS "*" = some (some (.ref f16)))
    (d3_OPERATIONS : PySem.W.nsIn K dOPERATIONS "/" = some (some (.ref f17)))
    (d4_OPERATIONS : PySem.W.nsIn K dOPERATIONS "mod" = some (some (.ref f18)))
    (d5_OPERATIONS : PySem.W.nsIn K dOPERATIONS "min" = some (some (.ref f19)))
    (d6_OPERATIONS : PySem.W.nsIn K dOPERATIONS "max" = some (some (.ref f20)))
    (d7_OPERATIONS : PySem.W.nsIn K dOPERATIONS "<" = some (some (.ref f21)))
    (d8_OPERATIONS : PySem.W.nsIn K dOPERATIONS "=" = some (some (.ref f22)))
    (g_INSTRUCTIONS : PySem.W.nsIn K mainGlobals "INSTRUCTIONS" = some (some (.ref dINSTRUCTIONS)))
    (dl_INSTRUCTIONS : K.lookup dINSTRUCTIONS = some ⟨.type "dict", none, .dict esINSTRUCTIONS nnINSTRUCTIONS, #[]⟩)
    (dk_INSTRUCTIONS : PySem.W.KeysLit w.params esINSTRUCTIONS.toList)
    (d0_INSTRUCTIONS : PySem.W.nsIn K dINSTRUCTIONS "fill" = some (some (.ref f26)))
    (d1_INSTRUCTIONS : PySem.W.nsIn K dINSTRUCTIONS "calc" = some (some (.ref f27)))
    (d2_INSTRUCTIONS : PySem.W.nsIn K dINSTRUCTIONS "take" = some (some (.ref f28)))
    (d3_INSTRUCTIONS : PySem.W.nsIn K dINSTRUCTIONS "pick" = some (some (.ref f29)))
    (d4_INSTRUCTIONS : PySem.W.nsIn K dINSTRUCTIONS "repeat" = some (some (.ref f30)))
    (d5_INSTRUCTIONS : PySem.W.nsIn K dINSTRUCTIONS "count" = some (some (.ref f31)))
    (d6_INSTRUCTIONS : PySem.W.nsIn K dINSTRUCTIONS "where" = some (some (.ref f32)))
    (d7_INSTRUCTIONS : PySem.W.nsIn K dINSTRUCTIONS "weave" = some (some (.ref f33)))
    (d8_INSTRUCTIONS : PySem.W.nsIn K dINSTRUCTIONS "join" = some (some (.ref f34)))
    (d9_INSTRUCTIONS : PySem.W.nsIn K dINSTRUCTIONS "sums" = some (some (.ref f35)))
    (d10_INSTRUCTIONS : PySem.W.nsIn K dINSTRUCTIONS "zip" = some (some (.ref f36)))
    (d11_INSTRUCTIONS : PySem.W.nsIn K dINSTRUCTIONS "place" = some (some (.ref f37)))
    (d12_INSTRUCTIONS : PySem.W.nsIn K dINSTRUCTIONS "range" = some (some (.ref f38)))
    (d13_INSTRUCTIONS : PySem.W.nsIn K dINSTRUCTIONS "same" = some (some (.ref f39)))
    (d14_INSTRUCTIONS : PySem.W.nsIn K dINSTRUCTIONS "flags" = some (some (.ref f40)))
    : ∃ fd : FuncData, (∀ (s : Shared) (v : Value), BindsTo s fd ⟨[v], []⟩ [("script", v)]) ∧ ∀ base : Heap, K.In base → base.Ns mainGlobals mg → GX.FnG l.prog w K mg base CX0 12 fa fd ["script"] (spLaw K) := by
  have e := hfa.symm.trans (PySem.W.mg_of X G a52)
  cases e
  have F0 := fun_mk (st := s_Store___init__) l0 c0 k0
  have B0 := F0.binds (ps := ["self", "slots"]) fun _ _ _ _ _ _ us hl => match us, hl with | [_, _], _ => rfl
  have F1 := fun_mk (st := s_Store_place) l1 c1 k1
  have B1 := F1.binds (ps := ["self", "number"]) fun _ _ _ _ _ _ us hl => match us, hl with | [_, _], _ => rfl
  have F2 := fun_mk (st := s_Store_read) l2 c2 k2
  have B2 := F2.binds (ps := ["self", "registers"]) fun _ _ _ _ _ _ us hl => match us, hl with | [_, _], _ => rfl
  have F3 := fun_mk (st := s_Store_write) l3 c3 k3
  have B3 := F3.binds (ps := ["self", "registers", "vectors"]) fun _ _ _ _ _ _ us hl => match us, hl with | [_, _, _], _ => rfl
  have F4 := fun_mk (st := s_Machine___init__) l4 c4 k4
  have B4 := F4.binds (ps := ["self", "blocks", "plans"]) fun _ _ _ _ _ _ us hl => match us, hl with | [_, _, _], _ => rfl
  have F5 := fun_mk (st := s_Machine_results_for) l5 c5 k5
  have B5 := F5.binds (ps := ["self", "name", "values"]) fun _ _ _ _ _ _ us hl => match us, hl with | [_, _, _], _ => rfl
  have F6 := fun_mk (st := s_Machine_run_block) l6 c6 k6
  have B6 := F6.binds (ps := ["self", "name", "vectors"]) fun _ _ _ _ _ _ us hl => match us, hl with | [_, _, _], _ => rfl
  have F7 := fun_mk (st := s_Machine_run_instruction) l7 c7 k7
  have B7 := F7.binds (ps := ["self", "instruction", "store"]) fun _ _ _ _ _ _ us hl => match us, hl with | [_, _, _], _ => rfl
  have F8 := fun_mk (st := s_Machine_run_call) l8 c8 k8
  have B8 := F8.binds (ps := ["self", "name", "vectors", "many"]) fun _ _ _ _ _ _ us hl => match us, hl with | [_, _, _, _], _ => rfl
  have F9 := fun_mk (st := s_vectors_of) l9 c9 k9
  have B9 := F9.binds (ps := ["kind", "values"]) fun _ _ _ _ _ _ us hl => match us, hl with | [_, _], _ => rfl
  have F10 := fun_mk (st := s_values_of) l10 c10 k10
  have B10 := F10.binds (ps := ["kind", "vectors"]) fun _ _ _ _ _ _ us hl => match us, hl with | [_, _], _ => rfl
  have F11 := fun_mk (st := s_forms_of) l11 c11 k11
  have B11 := F11.binds (ps := ["kind"]) fun _ _ _ _ _ _ us hl => match us, hl with | [_], _ => rfl
  have F12 := fun_mk (st := s_cut) l12 c12 k12
  have B12 := F12.binds (ps := ["values", "lengths"]) fun _ _ _ _ _ _ us hl => match us, hl with | [_, _], _ => rfl
  have F13 := fun_mk (st := s_wrapped) l13 c13 k13
  have B13 := F13.binds (ps := ["n"]) fun _ _ _ _ _ _ us hl => match us, hl with | [_], _ => rfl
  have F14 := fun_mk (st := s_added) l14 c14 k14
  have B14 := F14.binds (ps := ["a", "b"]) fun _ _ _ _ _ _ us hl => match us, hl with | [_, _], _ => rfl
  have F15 := fun_mk (st := s_subtracted) l15 c15 k15
  have B15 := F15.binds (ps := ["a", "b"]) fun _ _ _ _ _ _ us hl => match us, hl with | [_, _], _ => rfl
  have F16 := fun_mk (st := s_multiplied) l16 c16 k16
  have B16 := F16.binds (ps := ["a", "b"]) fun _ _ _ _ _ _ us hl => match us, hl with | [_, _], _ => rfl
  have F17 := fun_mk (st := s_quotient) l17 c17 k17
  have B17 := F17.binds (ps := ["a", "b"]) fun _ _ _ _ _ _ us hl => match us, hl with | [_, _], _ => rfl
  have F18 := fun_mk (st := s_remainder) l18 c18 k18
  have B18 := F18.binds (ps := ["a", "b"]) fun _ _ _ _ _ _ us hl => match us, hl with | [_, _], _ => rfl
  have F19 := fun_mk (st := s_smaller) l19 c19 k19
  have B19 := F19.binds (ps := ["a", "b"]) fun _ _ _ _ _ _ us hl => match us, hl with | [_, _], _ => rfl
  have F20 := fun_mk (st := s_larger) l20 c20 k20
  have B20 := F20.binds (ps := ["a", "b"]) fun _ _ _ _ _ _ us hl => match us, hl with | [_, _], _ => rfl
  have F21 := fun_mk (st := s_is_less) l21 c21 k21
  have B21 := F21.binds (ps := ["a", "b"]) fun _ _ _ _ _ _ us hl => match us, hl with | [_, _], _ => rfl
  have F22 := fun_mk (st := s_is_equal) l22 c22 k22
  have B22 := F22.binds (ps := ["a", "b"]) fun _ _ _ _ _ _ us hl => match us, hl with | [_, _], _ => rfl
  have F23 := fun_mk (st := s_calculate) l23 c23 k23
  have B23 := F23.binds (ps := ["sign", "a", "b"]) fun _ _ _ _ _ _ us hl => match us, hl with | [_, _, _], _ => rfl
  have F24 := fun_mk (st := s_execute) l24 c24 k24
  have B24 := F24.binds (ps := ["name", "extra", "inputs"]) fun _ _ _ _ _ _ us hl => match us, hl with | [_, _, _], _ => rfl
  have F25 := fun_mk (st := s_starts_of) l25 c25 k25
  have B25 := F25.binds (ps := ["lengths"]) fun _ _ _ _ _ _ us hl => match us, hl with | [_], _ => rfl
  have F26 := fun_mk (st := s_fill) l26 c26 k26
  have B26 := F26.binds (ps := ["extra", "inputs"]) fun _ _ _ _ _ _ us hl => match us, hl with | [_, _], _ => rfl
  have F27 := fun_mk (st := s_calc) l27 c27 k27
  have B27 := F27.binds (ps := ["extra", "inputs"]) fun _ _ _ _ _ _ us hl => match us, hl with | [_, _], _ => rfl
  have F28 := fun_mk (st := s_take) l28 c28 k28
  have B28 := F28.binds (ps := ["_", "inputs"]) fun _ _ _ _ _ _ us hl => match us, hl with | [_, _], _ => rfl
  have F29 := fun_mk (st := s_pick) l29 c29 k29
  have B29 := F29.binds (ps := ["_", "inputs"]) fun _ _ _ _ _ _ us hl => match us, hl with | [_, _], _ => rfl
  have F30 := fun_mk (st := s_repeat) l30 c30 k30
  have B30 := F30.binds (ps := ["_", "inputs"]) fun _ _ _ _ _ _ us hl => match us, hl with | [_, _], _ => rfl
  have F31 := fun_mk (st := s_count) l31 c31 k31
  have B31 := F31.binds (ps := ["_", "inputs"]) fun _ _ _ _ _ _ us hl => match us, hl with | [_, _], _ => rfl
  have F32 := fun_mk (st := s_where) l32 c32 k32
  have B32 := F32.binds (ps := ["extra", "inputs"]) fun _ _ _ _ _ _ us hl => match us, hl with | [_, _], _ => rfl
  have F33 := fun_mk (st := s_weave) l33 c33 k33
  have B33 := F33.binds (ps := ["_", "inputs"]) fun _ _ _ _ _ _ us hl => match us, hl with | [_, _], _ => rfl
  have F34 := fun_mk (st := s_join) l34 c34 k34
  have B34 := F34.binds (ps := ["_", "inputs"]) fun _ _ _ _ _ _ us hl => match us, hl with | [_, _], _ => rfl
  have F35 := fun_mk (st := s_sums) l35 c35 k35
  have B35 := F35.binds (ps := ["_", "inputs"]) fun _ _ _ _ _ _ us hl => match us, hl with | [_, _], _ => rfl
  have F36 := fun_mk (st := s_zip_segments) l36 c36 k36
  have B36 := F36.binds (ps := ["_", "inputs"]) fun _ _ _ _ _ _ us hl => match us, hl with | [_, _], _ => rfl
  have F37 := fun_mk (st := s_place) l37 c37 k37
  have B37 := F37.binds (ps := ["_", "inputs"]) fun _ _ _ _ _ _ us hl => match us, hl with | [_, _], _ => rfl
  have F38 := fun_mk (st := s_need_range) l38 c38 k38
  have B38 := F38.binds (ps := ["_", "inputs"]) fun _ _ _ _ _ _ us hl => match us, hl with | [_, _], _ => rfl
  have F39 := fun_mk (st := s_need_same) l39 c39 k39
  have B39 := F39.binds (ps := ["_", "inputs"]) fun _ _ _ _ _ _ us hl => match us, hl with | [_, _], _ => rfl
  have F40 := fun_mk (st := s_flags) l40 c40 k40
  have B40 := F40.binds (ps := ["_", "inputs"]) fun _ _ _ _ _ _ us hl => match us, hl with | [_, _], _ => rfl
  have F41 := fun_mk (st := s_run) l41 c41 k41
  have B41 := F41.binds (ps := ["blocks", "name", "values"]) fun _ _ _ _ _ _ us hl => match us, hl with | [_, _, _], _ => rfl
  have F42 := fun_mk (st := s_law_state) l42 c42 k42
  have B42 := F42.binds (ps := ["script"]) fun _ _ _ _ _ _ us hl => match us, hl with | [_], _ => rfl
  have F43 := fun_mk (st := s_law_draw) l43 c43 k43
  have B43 := F43.binds (ps := ["state", "many"]) fun _ _ _ _ _ _ us hl => match us, hl with | [_, _], _ => rfl
  have F44 := fun_mk (st := s_law_pick) l44 c44 k44
  have B44 := F44.binds (ps := ["state", "row"]) fun _ _ _ _ _ _ us hl => match us, hl with | [_, _], _ => rfl
  have F45 := fun_mk (st := s_law_number) l45 c45 k45
  have B45 := F45.binds (ps := ["state"]) fun _ _ _ _ _ _ us hl => match us, hl with | [_], _ => rfl
  have F46 := fun_mk (st := s_law_code) l46 c46 k46
  have B46 := F46.binds (ps := ["state", "many"]) fun _ _ _ _ _ _ us hl => match us, hl with | [_, _], _ => rfl
  have F47 := fun_mk (st := s_law_blocks) l47 c47 k47
  have B47 := F47.binds (ps := ["state"]) fun _ _ _ _ _ _ us hl => match us, hl with | [_], _ => rfl
  have F48 := fun_mk (st := s_law_wrap) l48 c48 k48
  have B48 := F48.binds (ps := ["n"]) fun _ _ _ _ _ _ us hl => match us, hl with | [_], _ => rfl
  have F49 := fun_mk (st := s_law_calc) l49 c49 k49
  have B49 := F49.binds (ps := ["sign", "a", "b"]) fun _ _ _ _ _ _ us hl => match us, hl with | [_, _, _], _ => rfl
  have F50 := fun_mk (st := s_law_execute) l50 c50 k50
  have B50 := F50.binds (ps := ["name", "extra", "given"]) fun _ _ _ _ _ _ us hl => match us, hl with | [_, _, _], _ => rfl
  have F51 := fun_mk (st := s_law_block) l51 c51 k51
  have B51 := F51.binds (ps := ["blocks", "block", "vectors", "count_v"]) fun _ _ _ _ _ _ us hl => match us, hl with | [_, _, _, _], _ => rfl
  have F52 := fun_mk (st := s_law) l52 c52 k52
  have B52 := F52.binds (ps := ["script"]) fun _ _ _ _ _ _ us hl => match us, hl with | [_], _ => rfl
  have T : Txt w K mg ⟨(f9, _), (f10, _), (f11, _), (f12, _), (f13, _), (f14, _), (f15, _), (f16, _), (f17, _), (f18, _), (f19, _), (f20, _), (f21, _), (f22, _), (f23, _), (f24, _), (f25, _), (f26, _), (f27, _), (f28, _), (f29, _), (f30, _), (f31, _), (f32, _), (f33, _), (f34, _), (f35, _), (f36, _), (f37, _), (f38, _), (f39, _), (f40, _), (f41, _), (f42, _), (f43, _), (f44, _), (f45, _), (f46, _), (f47, _), (f48, _), (f49, _), (f50, _), (f51, _), (_, _), cFlatError, cTrapError, dOPERATIONS, dINSTRUCTIONS⟩ :=
    { vectors_of := ⟨F9, PySem.W.mg_of X G a9, B9⟩, values_of := ⟨F10, PySem.W.mg_of X G a10, B10⟩, forms_of := ⟨F11, PySem.W.mg_of X G a11, B11⟩, cut := ⟨F12, PySem.W.mg_of X G a12, B12⟩, wrapped := ⟨F13, PySem.W.mg_of X G a13, B13⟩, added := ⟨F14, PySem.W.mg_of X G a14, B14⟩, subtracted := ⟨F15, PySem.W.mg_of X G a15, B15⟩, multiplied := ⟨F16, PySem.W.mg_of X G a16, B16⟩, quotient := ⟨F17, PySem.W.mg_of X G a17, B17⟩, remainder := ⟨F18, PySem.W.mg_of X G a18, B18⟩, smaller := ⟨F19, PySem.W.mg_of X G a19, B19⟩, larger := ⟨F20, PySem.W.mg_of X G a20, B20⟩, is_less := ⟨F21, PySem.W.mg_of X G a21, B21⟩, is_equal := ⟨F22, PySem.W.mg_of X G a22, B22⟩, calculate := ⟨F23, PySem.W.mg_of X G a23, B23⟩, execute := ⟨F24, PySem.W.mg_of X G a24, B24⟩, starts_of := ⟨F25, PySem.W.mg_of X G a25, B25⟩, fill := ⟨F26, PySem.W.mg_of X G a26, B26⟩, calc_ := ⟨F27, PySem.W.mg_of X G a27, B27⟩, take_ := ⟨F28, PySem.W.mg_of X G a28, B28⟩, pick := ⟨F29, PySem.W.mg_of X G a29, B29⟩, repeat_ := ⟨F30, PySem.W.mg_of X G a30, B30⟩, count_ := ⟨F31, PySem.W.mg_of X G a31, B31⟩, where_ := ⟨F32, PySem.W.mg_of X G a32, B32⟩, weave := ⟨F33, PySem.W.mg_of X G a33, B33⟩, join_ := ⟨F34, PySem.W.mg_of X G a34, B34⟩, sums := ⟨F35, PySem.W.mg_of X G a35, B35⟩, zip_segments := ⟨F36, PySem.W.mg_of X G a36, B36⟩, place := ⟨F37, PySem.W.mg_of X G a37, B37⟩, need_range := ⟨F38, PySem.W.mg_of X G a38, B38⟩, need_same := ⟨F39, PySem.W.mg_of X G a39, B39⟩, flags := ⟨F40, PySem.W.mg_of X G a40, B40⟩, run := ⟨F41, PySem.W.mg_of X G a41, B41⟩, law_state := ⟨F42, PySem.W.mg_of X G a42, B42⟩, law_draw := ⟨F43, PySem.W.mg_of X G a43, B43⟩, law_pick := ⟨F44, PySem.W.mg_of X G a44, B44⟩, law_number := ⟨F45, PySem.W.mg_of X G a45, B45⟩, law_code := ⟨F46, PySem.W.mg_of X G a46, B46⟩, law_blocks := ⟨F47, PySem.W.mg_of X G a47, B47⟩, law_wrap := ⟨F48, PySem.W.mg_of X G a48, B48⟩, law_calc := ⟨F49, PySem.W.mg_of X G a49, B49⟩, law_execute := ⟨F50, PySem.W.mg_of X G a50, B50⟩, law_block := ⟨F51, PySem.W.mg_of X G a51, B51⟩, law := ⟨F52, PySem.W.mg_of X G a52, B52⟩,
      reversed := PySem.W.mg_none_of X G b_reversed, len := PySem.W.mg_none_of X G b_len, abs := PySem.W.mg_none_of X G b_abs, int := PySem.W.mg_none_of X G b_int, min := PySem.W.mg_none_of X G b_min, max := PySem.W.mg_none_of X G b_max, isinstance := PySem.W.mg_none_of X G b_isinstance, range := PySem.W.mg_none_of X G b_range, zip := PySem.W.mg_none_of X G b_zip, enumerate := PySem.W.mg_none_of X G b_enumerate, list := PySem.W.mg_none_of X G b_list, sum := PySem.W.mg_none_of X G b_sum, repr := PySem.W.mg_none_of X G b_repr,
      gFlatError := PySem.W.mg_of X G g_FlatError, gTrapError := PySem.W.mg_of X G g_TrapError, xT := x_TrapError, kT := xk_TrapError, bT := xb_TrapError, tT := xt_TrapError, iT := xi_TrapError, sT := xs_TrapError,
      half := ⟨_, PySem.W.mg_of X G h_HALF, _, rfl⟩, span := ⟨_, PySem.W.mg_of X G h_SPAN, _, rfl⟩, limit := ⟨_, PySem.W.mg_of X G h_RANGE_LIMIT, _, rfl⟩,
      gOP := PySem.W.mg_of X G g_OPERATIONS, gIN := PySem.W.mg_of X G g_INSTRUCTIONS,
      o_added := ⟨esOPERATIONS, nnOPERATIONS, _, dl_OPERATIONS, dk_OPERATIONS, d0_OPERATIONS, rfl⟩, o_subtracted := ⟨esOPERATIONS, nnOPERATIONS, _, dl_OPERATIONS, dk_OPERATIONS, d1_OPERATIONS, rfl⟩, o_multiplied := ⟨esOPERATIONS, nnOPERATIONS, _, dl_OPERATIONS, dk_OPERATIONS, d2_OPERATIONS, rfl⟩, o_quotient := ⟨esOPERATIONS, nnOPERATIONS, _, dl_OPERATIONS, dk_OPERATIONS, d3_OPERATIONS, rfl⟩, o_remainder := ⟨esOPERATIONS, nnOPERATIONS, _, dl_OPERATIONS, dk_OPERATIONS, d4_OPERATIONS, rfl⟩, o_smaller := ⟨esOPERATIONS, nnOPERATIONS, _, dl_OPERATIONS, dk_OPERATIONS, d5_OPERATIONS, rfl⟩, o_larger := ⟨esOPERATIONS, nnOPERATIONS, _, dl_OPERATIONS, dk_OPERATIONS, d6_OPERATIONS, rfl⟩, o_is_less := ⟨esOPERATIONS, nnOPERATIONS, _, dl_OPERATIONS, dk_OPERATIONS, d7_OPERATIONS, rfl⟩, o_is_equal := ⟨esOPERATIONS, nnOPERATIONS, _, dl_OPERATIONS, dk_OPERATIONS, d8_OPERATIONS, rfl⟩,
      n_fill := ⟨esINSTRUCTIONS, nnINSTRUCTIONS, _, dl_INSTRUCTIONS, dk_INSTRUCTIONS, d0_INSTRUCTIONS, rfl⟩, n_calc := ⟨esINSTRUCTIONS, nnINSTRUCTIONS, _, dl_INSTRUCTIONS, dk_INSTRUCTIONS, d1_INSTRUCTIONS, rfl⟩, n_take := ⟨esINSTRUCTIONS, nnINSTRUCTIONS, _, dl_INSTRUCTIONS, dk_INSTRUCTIONS, d2_INSTRUCTIONS, rfl⟩, n_pick := ⟨esINSTRUCTIONS, nnINSTRUCTIONS, _, dl_INSTRUCTIONS, dk_INSTRUCTIONS, d3_INSTRUCTIONS, rfl⟩, n_repeat := ⟨esINSTRUCTIONS, nnINSTRUCTIONS, _, dl_INSTRUCTIONS, dk_INSTRUCTIONS, d4_INSTRUCTIONS, rfl⟩, n_count := ⟨esINSTRUCTIONS, nnINSTRUCTIONS, _, dl_INSTRUCTIONS, dk_INSTRUCTIONS, d5_INSTRUCTIONS, rfl⟩, n_where := ⟨esINSTRUCTIONS, nnINSTRUCTIONS, _, dl_INSTRUCTIONS, dk_INSTRUCTIONS, d6_INSTRUCTIONS, rfl⟩, n_weave := ⟨esINSTRUCTIONS, nnINSTRUCTIONS, _, dl_INSTRUCTIONS, dk_INSTRUCTIONS, d7_INSTRUCTIONS, rfl⟩, n_join := ⟨esINSTRUCTIONS, nnINSTRUCTIONS, _, dl_INSTRUCTIONS, dk_INSTRUCTIONS, d8_INSTRUCTIONS, rfl⟩, n_sums := ⟨esINSTRUCTIONS, nnINSTRUCTIONS, _, dl_INSTRUCTIONS, dk_INSTRUCTIONS, d9_INSTRUCTIONS, rfl⟩, n_zip := ⟨esINSTRUCTIONS, nnINSTRUCTIONS, _, dl_INSTRUCTIONS, dk_INSTRUCTIONS, d10_INSTRUCTIONS, rfl⟩, n_place := ⟨esINSTRUCTIONS, nnINSTRUCTIONS, _, dl_INSTRUCTIONS, dk_INSTRUCTIONS, d11_INSTRUCTIONS, rfl⟩, n_range := ⟨esINSTRUCTIONS, nnINSTRUCTIONS, _, dl_INSTRUCTIONS, dk_INSTRUCTIONS, d12_INSTRUCTIONS, rfl⟩, n_same := ⟨esINSTRUCTIONS, nnINSTRUCTIONS, _, dl_INSTRUCTIONS, dk_INSTRUCTIONS, d13_INSTRUCTIONS, rfl⟩, n_flags := ⟨esINSTRUCTIONS, nnINSTRUCTIONS, _, dl_INSTRUCTIONS, dk_INSTRUCTIONS, d14_INSTRUCTIONS, rfl⟩ }
  have S : STxt w K mg _ ⟨cStore, (f0, _), (f1, _), (f2, _), (f3, _)⟩ :=
    { T := T, cl := ⟨pg_Store, hd_Store, po_Store, sa_Store⟩, nS := n_Store_slots, nV := n_Store_vectors, gC := PySem.W.mg_of X G g_Store, mkk := ⟨mk_Store, a0, i0, kc_Store⟩, iF := F0, ib := B0, place := ⟨F1, ⟨a1, i1, k1⟩, B1⟩, read := ⟨F2, ⟨a2, i2, k2⟩, B2⟩, write := ⟨F3, ⟨a3, i3, k3⟩, B3⟩ }
  have M : MTxt w K mg _ _ ⟨cMachine, (f4, _), (f5, _), (f6, _), (f7, _), (f8, _)⟩ :=
    { S := S, cl := ⟨pg_Machine, hd_Machine, po_Machine, sa_Machine⟩, n_blocks := n_Machine_blocks, n_plans := n_Machine_plans, n_steps := n_Machine_steps, n_touches := n_Machine_touches, n_depth := n_Machine_depth, gC := PySem.W.mg_of X G g_Machine, mkk := ⟨mk_Machine, a4, i4, kc_Machine⟩, iF := F4, ib := B4, lim := ⟨_, PySem.W.mg_of X G h_BLOCK_LIMIT, _, rfl⟩, results_for := ⟨F5, ⟨a5, i5, k5⟩, B5⟩, run_block := ⟨F6, ⟨a6, i6, k6⟩, B6⟩, run_instruction := ⟨F7, ⟨a7, i7, k7⟩, B7⟩, run_call := ⟨F8, ⟨a8, i8, k8⟩, B8⟩ }
  exact ⟨_, fun s v => .of_eq rfl, fun base _ _ => ok_law M⟩
end K11
open PySem PySem.W PyProof.Rows
set_option maxRecDepth 100000 in
set_option maxHeartbeats 0 in
theorem PySem.Challenge.cw_flatsheaves_k11_machine_holds : PySem.Challenge.rw_flatsheaves_k11_machine.Holds := by
  w_on; o_law; k_head; (case hw => w_witness2)
  k_fill
  refine GX.walkG (l := PySem.Challenge.rw_flatsheaves_k11_machine) (n := 63) (k := 12) (x := "script") (cx := fun w => L2.CX0) (sp := fun w => K11.spLaw _) rfl (by decide) rfl ⟨rfl, by decide, by decide⟩ (fun w h Y => PySem.W.kIn_of Y) ?F (fun _ _ a ns hl hS => ⟨a, ns, rfl, hS, hl, fun _ => rfl⟩) fun _ _ _ _ _ z => z
  case F =>
    intro w mg fa h KX G hmg
    refine' K11.all_mk KX G hmg ?hhg_FlatError ?hhg_TrapError ?hhx_TrapError ?hhxk_TrapError ?hhxb_TrapError ?hhxt_TrapError ?hhxi_TrapError ?hhxs_TrapError ?hhg_Store ?hhpg_Store ?hhhd_Store ?hhpo_Store ?hhsa_Store ?hhmk_Store ?hhkc_Store ?hhn_Store_slots ?hhn_Store_vectors ?hha0 ?hhi0 ?hhl0 ?hhc0 ?hhk0 ?hha1 ?hhi1 ?hhl1 ?hhc1 ?hhk1 ?hha2 ?hhi2 ?hhl2 ?hhc2 ?hhk2 ?hha3 ?hhi3 ?hhl3 ?hhc3 ?hhk3 ?hhg_Machine ?hhpg_Machine ?hhhd_Machine ?hhpo_Machine ?hhsa_Machine ?hhmk_Machine ?hhkc_Machine ?hhn_Machine_blocks ?hhn_Machine_plans ?hhn_Machine_steps ?hhn_Machine_touches ?hhn_Machine_depth ?hha4 ?hhi4 ?hhl4 ?hhc4 ?hhk4 ?hha5 ?hhi5 ?hhl5 ?hhc5 ?hhk5 ?hha6 ?hhi6 ?hhl6 ?hhc6 ?hhk6 ?hha7 ?hhi7 ?hhl7 ?hhc7 ?hhk7 ?hha8 ?hhi8 ?hhl8 ?hhc8 ?hhk8 ?hha9 ?hhl9 ?hhc9 ?hhk9 ?hha10 ?hhl10 ?hhc10 ?hhk10 ?hha11 ?hhl11 ?hhc11 ?hhk11 ?hha12 ?hhl12 ?hhc12 ?hhk12 ?hha13 ?hhl13 ?hhc13 ?hhk13 ?hha14 ?hhl14 ?hhc14 ?hhk14 ?hha15 ?hhl15 ?hhc15 ?hhk15 ?hha16 ?hhl16 ?hhc16 ?hhk16 ?hha17 ?hhl17 ?hhc17 ?hhk17 ?hha18 ?hhl18 ?hhc18 ?hhk18 ?hha19 ?hhl19 ?hhc19 ?hhk19 ?hha20 ?hhl20 ?hhc20 ?hhk20 ?hha21 ?hhl21 ?hhc21 ?hhk21 ?hha22 ?hhl22 ?hhc22 ?hhk22 ?hha23 ?hhl23 ?hhc23 ?hhk23 ?hha24 ?hhl24 ?hhc24 ?hhk24 ?hha25 ?hhl25 ?hhc25 ?hhk25 ?hha26 ?hhl26 ?hhc26 ?hhk26 ?hha27 ?hhl27 ?hhc27 ?hhk27 ?hha28 ?hhl28 ?hhc28 ?hhk28 ?hha29 ?hhl29 ?hhc29 ?hhk29 ?hha30 ?hhl30 ?hhc30 ?hhk30 ?hha31 ?hhl31 ?hhc31 ?hhk31 ?hha32 ?hhl32 ?hhc32 ?hhk32 ?hha33 ?hhl33 ?hhc33 ?hhk33 ?hha34 ?hhl34 ?hhc34 ?hhk34 ?hha35 ?hhl35 ?hhc35 ?hhk35 ?hha36 ?hhl36 ?hhc36 ?hhk36 ?hha37 ?hhl37 ?hhc37 ?hhk37 ?hha38 ?hhl38 ?hhc38 ?hhk38 ?hha39 ?hhl39 ?hhc39 ?hhk39 ?hha40 ?hhl40 ?hhc40 ?hhk40 ?hha41 ?hhl41 ?hhc41 ?hhk41 ?hha42 ?hhl42 ?hhc42 ?hhk42 ?hha43 ?hhl43 ?hhc43 ?hhk43 ?hha44 ?hhl44 ?hhc44 ?hhk44 ?hha45 ?hhl45 ?hhc45 ?hhk45 ?hha46 ?hhl46 ?hhc46 ?hhk46 ?hha47 ?hhl47 ?hhc47 ?hhk47 ?hha48 ?hhl48 ?hhc48 ?hhk48 ?hha49 ?hhl49 ?hhc49 ?hhk49 ?hha50 ?hhl50 ?hhc50 ?hhk50 ?hha51 ?hhl51 ?hhc51 ?hhk51 ?hha52 ?hhl52 ?hhc52 ?hhk52 ?hhb_reversed ?hhb_len ?hhb_abs ?hhb_int ?hhb_min ?hhb_max ?hhb_isinstance ?hhb_range ?hhb_zip ?hhb_enumerate ?hhb_list ?hhb_sum ?hhb_repr ?hhh_HALF ?hhh_SPAN ?hhh_RANGE_LIMIT ?hhh_BLOCK_LIMIT ?hhg_OPERATIONS ?hhdl_OPERATIONS ?hhdk_OPERATIONS ?hhd0_OPERATIONS ?hhd1_OPERATIONS ?hhd2_OPERATIONS ?hhd3_OPERATIONS ?hhd4_OPERATIONS ?hhd5_OPERATIONS ?hhd6_OPERATIONS ?hhd7_OPERATIONS ?hhd8_OPERATIONS ?hhg_INSTRUCTIONS ?hhdl_INSTRUCTIONS ?hhdk_INSTRUCTIONS ?hhd0_INSTRUCTIONS ?hhd1_INSTRUCTIONS ?hhd2_INSTRUCTIONS ?hhd3_INSTRUCTIONS ?hhd4_INSTRUCTIONS ?hhd5_INSTRUCTIONS ?hhd6_INSTRUCTIONS ?hhd7_INSTRUCTIONS ?hhd8_INSTRUCTIONS ?hhd9_INSTRUCTIONS ?hhd10_INSTRUCTIONS ?hhd11_INSTRUCTIONS ?hhd12_INSTRUCTIONS ?hhd13_INSTRUCTIONS ?hhd14_INSTRUCTIONS
    (case hhg_FlatError => k_is)
    (case hhg_TrapError => k_is)
    (case hhx_TrapError => k_exc)
    (case hhxk_TrapError => k_is)
    (case hhxb_TrapError => k_is)
    (case hhxt_TrapError => k_is)
    (case hhxi_TrapError => k_is)
    (case hhxs_TrapError => k_is)
    (case hhg_Store => k_is)
    (case hhpg_Store => k_is)
    (case hhhd_Store => k_is)
    (case hhpo_Store => k_is)
    (case hhsa_Store => k_is)
    (case hhmk_Store => k_is)
    (case hhkc_Store => k_is)
    (case hhn_Store_slots => k_is)
    (case hhn_Store_vectors => k_is)
    (case hha0 => k_is)
    (case hhi0 => k_is)
    (case hhl0 => k_is)
    (case hhc0 => k_is)
    (case hhk0 => k_is)
    (case hha1 => k_is)
    (case hhi1 => k_is)
    (case hhl1 => k_is)
    (case hhc1 => k_is)
    (case hhk1 => k_is)
    (case hha2 => k_is)
    (case hhi2 => k_is)
    (case hhl2 => k_is)
    (case hhc2 => k_is)
    (case hhk2 => k_is)
    (case hha3 => k_is)
    (case hhi3 => k_is)
    (case hhl3 => k_is)
    (case hhc3 => k_is)
    (case hhk3 => k_is)
    (case hhg_Machine => k_is)
    (case hhpg_Machine => k_is)
    (case hhhd_Machine => k_is)
    (case hhpo_Machine => k_is)
    (case hhsa_Machine => k_is)
    (case hhmk_Machine => k_is)
    (case hhkc_Machine => k_is)
    (case hhn_Machine_blocks => k_is)
    (case hhn_Machine_plans => k_is)
    (case hhn_Machine_steps => k_is)
    (case hhn_Machine_touches => k_is)
    (case hhn_Machine_depth => k_is)
    (case hha4 => k_is)
    (case hhi4 => k_is)
    (case hhl4 => k_is)
    (case hhc4 => k_is)
    (case hhk4 => k_is)
    (case hha5 => k_is)
    (case hhi5 => k_is)
    (case hhl5 => k_is)
    (case hhc5 => k_is)
    (case hhk5 => k_is)
    (case hha6 => k_is)
    (case hhi6 => k_is)
    (case hhl6 => k_is)
    (case hhc6 => k_is)
    (case hhk6 => k_is)
    (case hha7 => k_is)
    (case hhi7 => k_is)
    (case hhl7 => k_is)
    (case hhc7 => k_is)
    (case hhk7 => k_is)
    (case hha8 => k_is)
    (case hhi8 => k_is)
    (case hhl8 => k_is)
    (case hhc8 => k_is)
    (case hhk8 => k_is)
    (case hha9 => k_is)
    (case hhl9 => k_is)
    (case hhc9 => k_is)
    (case hhk9 => k_is)
    (case hha10 => k_is)
    (case hhl10 => k_is)
    (case hhc10 => k_is)
    (case hhk10 => k_is)
    (case hha11 => k_is)
    (case hhl11 => k_is)
    (case hhc11 => k_is)
    (case hhk11 => k_is)
    (case hha12 => k_is)
    (case hhl12 => k_is)
    (case hhc12 => k_is)
    (case hhk12 => k_is)
    (case hha13 => k_is)
    (case hhl13 => k_is)
    (case hhc13 => k_is)
    (case hhk13 => k_is)
    (case hha14 => k_is)
    (case hhl14 => k_is)
    (case hhc14 => k_is)
    (case hhk14 => k_is)
    (case hha15 => k_is)
    (case hhl15 => k_is)
    (case hhc15 => k_is)
    (case hhk15 => k_is)
    (case hha16 => k_is)
    (case hhl16 => k_is)
    (case hhc16 => k_is)
    (case hhk16 => k_is)
    (case hha17 => k_is)
    (case hhl17 => k_is)
    (case hhc17 => k_is)
    (case hhk17 => k_is)
    (case hha18 => k_is)
    (case hhl18 => k_is)
    (case hhc18 => k_is)
    (case hhk18 => k_is)
    (case hha19 => k_is)
    (case hhl19 => k_is)
    (case hhc19 => k_is)
    (case hhk19 => k_is)
    (case hha20 => k_is)
    (case hhl20 => k_is)
    (case hhc20 => k_is)
    (case hhk20 => k_is)
    (case hha21 => k_is)
    (case hhl21 => k_is)
    (case hhc21 => k_is)
    (case hhk21 => k_is)
    (case hha22 => k_is)
    (case hhl22 => k_is)
    (case hhc22 => k_is)
    (case hhk22 => k_is)
    (case hha23 => k_is)
    (case hhl23 => k_is)
    (case hhc23 => k_is)
    (case hhk23 => k_is)
    (case hha24 => k_is)
    (case hhl24 => k_is)
    (case hhc24 => k_is)
    (case hhk24 => k_is)
    (case hha25 => k_is)
    (case hhl25 => k_is)
    (case hhc25 => k_is)
    (case hhk25 => k_is)
    (case hha26 => k_is)
    (case hhl26 => k_is)
    (case hhc26 => k_is)
    (case hhk26 => k_is)
    (case hha27 => k_is)
    (case hhl27 => k_is)
    (case hhc27 => k_is)
    (case hhk27 => k_is)
    (case hha28 => k_is)
    (case hhl28 => k_is)
    (case hhc28 => k_is)
    (case hhk28 => k_is)
    (case hha29 => k_is)
    (case hhl29 => k_is)
    (case hhc29 => k_is)
    (case hhk29 => k_is)
    (case hha30 => k_is)
    (case hhl30 => k_is)
    (case hhc30 => k_is)
    (case hhk30 => k_is)
    (case hha31 => k_is)
    (case hhl31 => k_is)
    (case hhc31 => k_is)
    (case hhk31 => k_is)
    (case hha32 => k_is)
    (case hhl32 => k_is)
    (case hhc32 => k_is)
    (case hhk32 => k_is)
    (case hha33 => k_is)
    (case hhl33 => k_is)
    (case hhc33 => k_is)
    (case hhk33 => k_is)
    (case hha34 => k_is)
    (case hhl34 => k_is)
    (case hhc34 => k_is)
    (case hhk34 => k_is)
    (case hha35 => k_is)
    (case hhl35 => k_is)
    (case hhc35 => k_is)
    (case hhk35 => k_is)
    (case hha36 => k_is)
    (case hhl36 => k_is)
    (case hhc36 => k_is)
    (case hhk36 => k_is)
    (case hha37 => k_is)
    (case hhl37 => k_is)
    (case hhc37 => k_is)
    (case hhk37 => k_is)
    (case hha38 => k_is)
    (case hhl38 => k_is)
    (case hhc38 => k_is)
    (case hhk38 => k_is)
    (case hha39 => k_is)
    (case hhl39 => k_is)
    (case hhc39 => k_is)
    (case hhk39 => k_is)
    (case hha40 => k_is)
    (case hhl40 => k_is)
    (case hhc40 => k_is)
    (case hhk40 => k_is)
    (case hha41 => k_is)
    (case hhl41 => k_is)
    (case hhc41 => k_is)
    (case hhk41 => k_is)
    (case hha42 => k_is)
    (case hhl42 => k_is)
    (case hhc42 => k_is)
    (case hhk42 => k_is)
    (case hha43 => k_is)
    (case hhl43 => k_is)
    (case hhc43 => k_is)
    (case hhk43 => k_is)
    (case hha44 => k_is)
    (case hhl44 => k_is)
    (case hhc44 => k_is)
    (case hhk44 => k_is)
    (case hha45 => k_is)
    (case hhl45 => k_is)
    (case hhc45 => k_is)
    (case hhk45 => k_is)
    (case hha46 => k_is)
    (case hhl46 => k_is)
    (case hhc46 => k_is)
    (case hhk46 => k_is)
    (case hha47 => k_is)
    (case hhl47 => k_is)
    (case hhc47 => k_is)
    (case hhk47 => k_is)
    (case hha48 => k_is)
    (case hhl48 => k_is)
    (case hhc48 => k_is)
    (case hhk48 => k_is)
    (case hha49 => k_is)
    (case hhl49 => k_is)
    (case hhc49 => k_is)
    (case hhk49 => k_is)
    (case hha50 => k_is)
    (case hhl50 => k_is)
    (case hhc50 => k_is)
    (case hhk50 => k_is)
    (case hha51 => k_is)
    (case hhl51 => k_is)
    (case hhc51 => k_is)
    (case hhk51 => k_is)
    (case hha52 => k_is)
    (case hhl52 => k_is)
    (case hhc52 => k_is)
    (case hhk52 => k_is)
    (case hhb_reversed => k_is)
    (case hhb_len => k_is)
    (case hhb_abs => k_is)
    (case hhb_int => k_is)
    (case hhb_min => k_is)
    (case hhb_max => k_is)
    (case hhb_isinstance => k_is)
    (case hhb_range => k_is)
    (case hhb_zip => k_is)
    (case hhb_enumerate => k_is)
    (case hhb_list => k_is)
    (case hhb_sum => k_is)
    (case hhb_repr => k_is)
    (case hhh_HALF => k_is)
    (case hhh_SPAN => k_is)
    (case hhh_RANGE_LIMIT => k_is)
    (case hhh_BLOCK_LIMIT => k_is)
    (case hhg_OPERATIONS => k_is)
    (case hhdl_OPERATIONS => k_is)
    (case hhdk_OPERATIONS => exact ⟨⟨_, _, rfl, rfl⟩, ⟨_, _, rfl, rfl⟩, ⟨_, _, rfl, rfl⟩, ⟨_, _, rfl, rfl⟩, ⟨_, _, rfl, rfl⟩, ⟨_, _, rfl, rfl⟩, ⟨_, _, rfl, rfl⟩, ⟨_, _, rfl, rfl⟩, ⟨_, _, rfl, rfl⟩, trivial⟩)
    (case hhd0_OPERATIONS => k_is)
    (case hhd1_OPERATIONS => k_is)
    (case hhd2_OPERATIONS => k_is)
    (case hhd3_OPERATIONS => k_is)
    (case hhd4_OPERATIONS => k_is)
    (case hhd5_OPERATIONS => k_is)
    (case hhd6_OPERATIONS => k_is)
    (case hhd7_OPERATIONS => k_is)
    (case hhd8_OPERATIONS => k_is)
    (case hhg_INSTRUCTIONS => k_is)
    (case hhdl_INSTRUCTIONS => k_is)
    (case hhdk_INSTRUCTIONS => exact ⟨⟨_, _, rfl, rfl⟩, ⟨_, _, rfl, rfl⟩, ⟨_, _, rfl, rfl⟩, ⟨_, _, rfl, rfl⟩, ⟨_, _, rfl, rfl⟩, ⟨_, _, rfl, rfl⟩, ⟨_, _, rfl, rfl⟩, ⟨_, _, rfl, rfl⟩, ⟨_, _, rfl, rfl⟩, ⟨_, _, rfl, rfl⟩, ⟨_, _, rfl, rfl⟩, ⟨_, _, rfl, rfl⟩, ⟨_, _, rfl, rfl⟩, ⟨_, _, rfl, rfl⟩, ⟨_, _, rfl, rfl⟩, trivial⟩)
    (case hhd0_INSTRUCTIONS => k_is)
    (case hhd1_INSTRUCTIONS => k_is)
    (case hhd2_INSTRUCTIONS => k_is)
    (case hhd3_INSTRUCTIONS => k_is)
    (case hhd4_INSTRUCTIONS => k_is)
    (case hhd5_INSTRUCTIONS => k_is)
    (case hhd6_INSTRUCTIONS => k_is)
    (case hhd7_INSTRUCTIONS => k_is)
    (case hhd8_INSTRUCTIONS => k_is)
    (case hhd9_INSTRUCTIONS => k_is)
    (case hhd10_INSTRUCTIONS => k_is)
    (case hhd11_INSTRUCTIONS => k_is)
    (case hhd12_INSTRUCTIONS => k_is)
    (case hhd13_INSTRUCTIONS => k_is)
    (case hhd14_INSTRUCTIONS => k_is)
#print axioms PySem.Challenge.cw_flatsheaves_k11_machine_holds

