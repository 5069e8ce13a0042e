import PyProof.Rows.All
import Wide.All
import OpenK.AllK
import Wide.FinOn
import PyProof.ReprRoads
import HandS.ForMost
import HandS.ForExc
import KE.GoesComp
import KE.KIndexOf
import PyProof.Rows.SetFrom
import HandS.Wide
import HandS.ExcIs
import HandS.IsInst
import HandS.CallLocal
import HandS.More
import HandS.Set
import HandS.SetKeys
import HandS.Style
import HandS.Walk
import HandS.FStr
import HandS.Small
import HandS.Star
import PyProof.Rows.SortShellAny
import HandS.Conv
import HandS.NoneIn
import HandS.Deep
import PySem.Challenge.RW_flatsheaves_k06_vector_instructions
set_option Elab.async false
set_option linter.all false
set_option maxRecDepth 100000
set_option maxHeartbeats 4000000
namespace GX
open PySem PySem.Spec PyProof.Rows L2
/-! ### defs that show data by repr: no text is being shown around them -/
structure FnG (P : Program) (w : World) (K : PySem.W.Frag) (mg : Str → Option Value) (base : Heap) (cx : CXT) (k : Nat) (f : Addr) (fd : FuncData) (ps : List Str) (sp : Sp) : Prop where
  len : ∀ {vs H Q E}, sp vs H Q E → vs.length = ps.length
  run : ∀ {A : Around} {outer : List Env} {s : Shared} {H : Hp} {g : Args} {us : List Value} {vs : List V} {Q : VK} {E : XK}, A.guards = some [] → Room k A → Env0 P w K mg base A outer s H →
    BindsTo s fd g (ps.zip us) → Vals vs us → sp vs H Q E → codeAny (model P w) A (.call (.ref f) g) (CR cx outer P w H s Q E) s
theorem ce_end {P : Program} {w : World} {K : PySem.W.Frag} {mg : Str → Option Value} {base : Heap} {N : List Str} {q : Str} {sc : Scope} {f : Addr} {cd : Value} {A : Around} {outer : List Env} {s s' : Shared} {H H' : Hp} {E : XK} {cx : CXT} {σ : L2.St} {v : V} {u : Value} {Q : VK}
    (I : Inv (cxOf cx P w K mg base N q sc f cd A outer s H E) [] σ H' s') (r : RelV v u) (z : Q v H') : CE outer P w H s Q u s' := ⟨v, H', I.os, I.bare, I.base, I.hok, r, z⟩
section
variable {P : Program} {w : World} {K : PySem.W.Frag} {mg : Str → Option Value} {base : Heap} {cx : CXT} {k : Nat} {f : Addr} {fd : FuncData} {N ps : List Str} {sp : Sp} {x qual : Str} {st : Stmt}
theorem fnG (F : Fun K x qual st f fd) (S : FnScope N ps (defScope st)) (len : ∀ vs H Q E, sp vs H Q E → vs.length = ps.length)
    (body : ∀ (cdv : Value) (A : Around) (outer : List Env) (s : Shared) (H : Hp) (vs : List V) (Q : VK) (E : XK), (A.deeper (envOfC qual (defScope st) s.heap.objs.size f cdv)).guards = some [] → Room k (A.deeper (envOfC qual (defScope st) s.heap.objs.size f cdv)) → sp vs H Q E →
      ∃ t, PSs (cxOf cx P w K mg base N qual (defScope st) f cdv A outer s H E) (defBody st) t ∧ t { nx := fun _ H' => Q .non H', rt := Q } (start N vs) H) : FnG P w K mg base cx (k + 1) f fd ps sp := by
  obtain ⟨_, _, _, _, _, _, cdv, _, _, rfl, lk, hcd⟩ := F.ex
  constructor
  · intro vs H Q E h; exact len _ _ _ _ h
  intro A outer s H g us vs Q E hg hr e0 hb r h
  have KX : K.In s.heap := e0.mod.kin.keeps fun b o e => (e0.bs b o e).1
  have kinds : ∀ y ∈ ps.zip us, (defScope st).names.lookup y.1 = some .local ∨ ((defScope st).names.lookup y.1 = some .cell ∧ ((cellsFrom (s.heap.objs.size + 1) (defScope st).names []).lookup y.1).isSome = true) := by
    rintro ⟨n, v⟩ hy
    exact (S.par n (List.of_mem_zip hy).1).imp_right fun q => ⟨q, PySem.W.cellsFrom_some _ _ _ (.inl q)⟩
  refine codeAny_call_function hr.depth (KX _ _ lk) rfl S.co S.gen rfl (PySem.W.codeRec_of KX hcd) (hb _ _ _ _ (wpAny_newFunctionEnv_cells S.kind kinds ?_))
  rintro env rfl s1 z
  refine ⟨(e0.mod.nolimit.keeps fun b o e => (e0.bs b o e).1).keeps z.toInCall.keep, codeAny_func ?_⟩
  obtain ⟨t, ht, hq⟩ := body cdv A outer s H vs Q E hg (hr.deeper _) h
  refine wpAny_mono (ht.run [] s1 (start N vs) H _ (inv_start S hr.hd e0 (len _ _ _ _ h) r z) hq) ?_ fun _ _ y => y
  intro fl s' y
  cases fl with
  | next => exact let ⟨_, _, J, q⟩ := y; ce_end (v := V.non) (u := Value.none) J rfl q
  | ret u => exact let ⟨_, _, _, J, rv, q⟩ := y; ce_end J rv q
  | brk => exact let ⟨_, _, _, q⟩ := y; False.elim q
  | cont => exact let ⟨_, _, _, q⟩ := y; False.elim q
end
section
variable {X : Cx} {cx : CXT} {k : Nat} {f : Addr} {fd : FuncData} {ps : List Str} {sp : Sp} {E : XK} {x : Str} {p pos : Pos} {e : Expr} {es : List Expr} {t : TA}
theorem pe_callG (F : FnG X.prog X.w X.K X.mg X.base cx k f fd ps sp) (hg0 : X.A.guards = some []) (hr : Room k X.A) (hg : Gl X x) (hm : X.mg x = some (.ref f)) (hk : PySem.W.keepIn X.K (.ref f) = true) (hb : Binds X.K fd ps []) (hx : Passes cx X E)
    (ha : PA X (e :: es) t) (hdb : (x == ("__debug__" : Str)) = false := by decide) (he : starEach (e :: es) X.env = (false, eval e X.env) :: starEach es X.env := by rfl) (hpl : (backTo pos (starEach es X.env)).any (·.1) = false := by rfl) :
    PE X (.Call (.Name x p) (e :: es) [] pos) (tCall sp [] E t) := by
  constructor
  intro pins s σ H Q I h
  refine wpAny_Call_Name_kw (ld_glob I hg hm (PySem.W.callWith_K (h₀ := X.base) I.ok.mod.kin hk (thn (ha.run pos pins s σ H _ I h) ?_) he hpl) hdb)
  rintro us s1 ⟨vs, H1, J, r, q⟩
  rw [List.append_nil] at q
  refine ⟨J.kIn, wpAny_call (codeAny_mono (F.run hg0 hr J.env0 (by simpa using hb s1 us J.kIn (by rw [List.append_nil, ← r.length]; exact F.len q)) r q) ?_)⟩
  intro res s' y
  match res, y with
  | .error err, y => exact hx pins σ H1 s1 err s' J y
  | .ok (.ret u), y => exact J.after y
  | .ok .next, y => exact False.elim y
  | .ok .brk, y => exact False.elim y
  | .ok .cont, y => exact False.elim y
/-- repr of lists and tuples of data -/
def rReprD (K : PySem.W.Frag) : List V → Hp → VK → Prop := fun xs H Q => ∃ (a : Addr) (d : PyData), xs = [.ref a] ∧ Dp K H (.ref a) d ∧ d.showable = true ∧ d.hasDict = false ∧ d.depth ≤ 60 ∧ d.shown.length ≤ sizeLine ∧ Q (.str d.shown) H
theorem call_reprD (hg : X.A.guards = some []) (hu : X.A.units + 64 < cLine) : CallR X (.builtin "repr") (rReprD X.K) := by
  intro pins s σ H xs us Q I r h
  obtain ⟨a, d, rfl, hd, h1, h2, h3, h4, q⟩ := h
  obtain ⟨u, rfl, rfl⟩ := vals1 r
  obtain ⟨as, hR⟩ := Dp.reads I d _ _ hd (rfl : RelV (.ref a) (.ref a))
  refine repr_of_reads' hR h1 (fun z => by rw [h2] at z; cases z) hg (by omega) (fun _ _ e => e) (fun h' u tk hk => ?_) h4
  exact ⟨.str d.shown, H, I.un (Un.kept hk) (I.hok.kept hk), ⟨u, rfl⟩, q⟩
end
/-! ### the law's end -/
theorem law_callG {P : Program} {w : World} {K : PySem.W.Frag} {mg mb : Str → Option Value} {cx : CXT} {k : Nat} {fa a : Addr} {fd : FuncData} {x : Str} {sp : Sp} {s : Shared} {vs : List Value} {ns : List Int}
    (KX : K.In s.heap) (hns : s.heap.Ns mainGlobals mg) (hb : s.heap.Ns builtinsNs mb) (hbb : ∀ x : Str, x ≠ "__name__" → mb x = bootBuiltins x) (hlim : s.heap.NoLimit) (hgens : s.gens = #[])
    (ha : s.heap.get? a = some { cls := .type "list", data := .seq vs.toArray }) (hi : IntsAre vs ns) (hl : ns.length ≤ sizeLine) (hr : Room k callerA)
    (F : ∀ base : Heap, K.In base → base.Ns mainGlobals mg → FnG P w K mg base cx k fa fd [x] sp) (hbind : ∀ (s : Shared) (u : Value), BindsTo s fd ⟨[u], []⟩ [(x, u)])
    (hsp : ∀ H : Hp, Only H → SqL K H a (ns.map V.int) → sp [.ref a] H (fun v _ => v = .bl true) fun _ _ _ => False)
    (hcx : ∀ H e s', cx [] H s (fun _ _ _ => False) e s' → False) :
    codeAny (model P w) callerA (.call (.ref fa) ⟨[.ref a], []⟩) (fun r s' => r = .ok (.ret (.bool true)) ∧ OldK s.heap s'.heap ∧ s'.os = s.os ∧ AllBare s'.gens) s := by
  have rv := vals_ints hi
  -- the heap: the script alone, where it is no object of the module's own
  have go : ∀ H : Hp, (∀ b u, H b = some u → b = a ∧ K.lookup a = none ∧ ∃ ob xs, u = .frz ob (.lst xs)) → SqL K H a (ns.map V.int) → HOk P w H s.heap →
      codeAny (model P w) callerA (.call (.ref fa) ⟨[.ref a], []⟩) (fun r s' => r = .ok (.ret (.bool true)) ∧ OldK s.heap s'.heap ∧ s'.os = s.os ∧ AllBare s'.gens) s := by
    intro H own hS hok
    have bare : ∀ {b : Addr}, b ≠ a → H b = none := fun {b} n => by
      cases e : H b with
      | none => rfl
      | some u => exact absurd (own b u e).1 n
    have dict : ∀ {b : Addr} {o : Obj} {es : Array DictEntry} {ep : Nat}, s.heap.get? b = some o → o.data = .dict es ep → H b = none := fun {b o es ep} e d => bare fun z => by
      rw [z, ha] at e
      cases e
      exact (nomatch (show Data.seq vs.toArray _ = Data.dict es ep from d))
    have nsB : ∀ {b : Addr} {m : Str → Option Value}, s.heap.Ns b m → (hidT s.heap H).Ns b m := fun {b m} z => by
      obtain ⟨o, es, ep, e, d, r⟩ := z
      exact ⟨o, es, ep, hidT_get e (dict e d), d, r⟩
    have kB : K.In (hidT s.heap H) := fun b o e => hidT_get (KX b o e) (by
      cases q : H b with
      | none => rfl
      | some u =>
        obtain ⟨rfl, n, _⟩ := own b u q
        rw [n] at e
        cases e)
    obtain ⟨mc, c1, c2⟩ := hlim
    have e0 : Env0 P w K mg (hidT s.heap H) callerA [] s H :=
      { frames := rfl, mod := ⟨kB, nsB hns, ⟨mb, nsB hb, hbb⟩, mc, nsB c1, c2⟩, bs := fun b o e => of_hidT e, bsz := Nat.le_of_eq (hidT_size _ _), funs := trivial, frf := fun b z => (nomatch (show b ∈ ([] : List Addr) from z)), hok := hok, bare := .of_eq hgens }
    have only : Only H := fun b => by
      cases e : H b with
      | none => exact .inl rfl
      | some u =>
        obtain ⟨_, _, ob, xs, rfl⟩ := own b u e
        exact .inr ⟨ob, xs, rfl⟩
    refine codeAny_mono ((F _ kB (nsB hns)).run (A := callerA) (us := [.ref a]) rfl hr e0 (hbind s (.ref a)) (.cons (show RelV (.ref a) (.ref a) from rfl) .nil) (hsp H only hS)) ?_
    intro res s' y
    match res, y with
    | .error err, y => exact (hcx H err s' y).elim
    | .ok .next, y => exact False.elim y
    | .ok .brk, y => exact False.elim y
    | .ok .cont, y => exact False.elim y
    | .ok (.ret u), y =>
      obtain ⟨v, H', os, gb, un, hok', r', q⟩ := y
      obtain rfl : v = .bl true := q
      obtain rfl : u = Value.bool true := r'
      refine ⟨rfl, OldK.of_keep fun b o e => ?_, os, gb⟩
      cases q : H b with
      | none => exact un.keep b o e q (fun z => nomatch (show b ∈ ([] : List Addr) from z)) (fun z => nomatch z)
      | some u =>
        obtain ⟨_, _, ob, xs, rfl⟩ := own b u q
        have g1 := (hok b _ q).1
        have g2 := (hok' b _ (un.frzs b ob _ q)).1
        rw [e] at g1
        cases g1
        exact g2
  by_cases hK : K.lookup a = none
  · obtain ⟨H, hH⟩ : ∃ H : Hp, H = upd (fun _ => none) a (.frz { cls := .type "list", data := .seq vs.toArray } (.lst (ns.map V.int))) := ⟨_, rfl⟩
    have at_a : H a = some (.frz { cls := .type "list", data := .seq vs.toArray } (.lst (ns.map V.int))) := by rw [hH]; exact upd_same
    have off : ∀ b u, H b = some u → b = a ∧ u = .frz { cls := .type "list", data := .seq vs.toArray } (.lst (ns.map V.int)) := fun b u e => by
      by_cases c : b = a
      · rw [c, at_a] at e
        exact ⟨c, (Option.some.inj e).symm⟩
      · rw [hH, upd_ne c] at e
        cases e
    refine go H (fun b u e => ⟨(off b u e).1, hK, _, _, (off b u e).2⟩) (.inl (.inr ⟨_, at_a⟩)) fun b u e => ?_
    obtain ⟨rfl, rfl⟩ := off b u e
    exact ⟨ha, by rw [List.length_map]; exact hl, vs, _, rv, ha⟩
  · obtain ⟨o, ho⟩ := Option.ne_none_iff_exists'.mp hK
    have e := KX a o ho
    rw [ha] at e
    obtain rfl := Option.some.inj e
    exact go (fun _ => none) (fun b u z => nomatch (show (none : Option HO) = some u from z)) (.inr ⟨_, vs.toArray, _, ho, rfl, rfl, rfl, by rw [List.size_toArray, hi.length]; exact hl, by simpa using rv⟩) fun b u z => nomatch (show (none : Option HO) = some u from z)
theorem walkG {l : PySem.W.OpenLaw} {n k : Nat} {q : Program} {loose : List Str} {XP : (Str → Option Value) → Heap → Prop} {YP : World → Heap → Prop} {d : DefRec} {K : Params → PySem.W.Frag} {cx : World → CXT} {sp : World → Sp} {x : Str}
    (hn : l.most = some n) (hn2 : n ≤ sizeLine) (hdf : d.params.defaults = []) (hr : Room k callerA) (hY : ∀ (w : World) (h : Heap), YP w h → (K w.params).In h)
    (F : ∀ (w : World) (mg : Str → Option Value) (fa : Addr) (h : Heap), (K w.params).In h → h.Ns mainGlobals mg → mg d.name = some (.ref fa) →
      ∃ fd : FuncData, (∀ (s : Shared) (u : Value), BindsTo s fd ⟨[u], []⟩ [(x, u)]) ∧ ∀ base : Heap, (K w.params).In base → base.Ns mainGlobals mg → FnG l.prog w (K w.params) mg base (cx w) k fa fd [x] (sp w))
    (hsp : ∀ (w : World) (H : Hp) (a : Addr) (ns : List Int), ns.length ≤ n → SqL (K w.params) H a (ns.map V.int) → sp w [.ref a] H (fun v _ => v = .bl true) fun _ _ _ => False)
    (hcx : ∀ (w : World) (H : Hp) (s : Shared) (e : Value) (s' : Shared), cx w [] H s (fun _ _ _ => False) e s' → False) :
    PySem.W.WalkO q loose XP YP l.row.toRowW d [] (fun f vs => PySem.call f vs) := by
  refine Att.attach_call hn hdf ?_
  intro w s₀ s₁ mg mb fa o pm cd doc a vs ns G Y ho hd hcd hmg hobj hints hlen hg
  obtain ⟨fd, hb, hF⟩ := F w mg fa _ (hY w _ Y) G.T.g hmg
  exact law_callG (hY w _ Y) G.T.g G.T.b G.T.builtins G.T.nolimit hg hobj hints (Nat.le_trans hlen hn2) hr hF hb (fun H _ hS => hsp w H a ns hlen hS) fun H e s' => hcx w H s₁ e s'
end GX

namespace LX
open PySem PySem.Spec PyProof.Rows L2
/-! ### an exception that leaves a list comprehension -/
theorem same_frame (x : Value) (sc : Scope) (cl : List (Str × Addr)) (C : Addr) (env : Env) : noteFrame x (compEnvC sc cl C env) = noteFrame x env := rfl
/-- the heap without one address -/
theorem without (h : Heap) (C : Addr) : ∃ G : Heap, (∀ b, b ≠ C → G.get? b = h.get? b) ∧ G.get? C = none := by
  obtain ⟨G, g1, g2⟩ := restrict h fun b => decide (b ≠ C)
  exact ⟨G, fun b n => g1 b (decide_eq_true n), g2 C (by simp)⟩
theorem frames_move {l : List Env} {h h' B B' : Heap} {C : Addr} (f : h.FunFrames B l) (nC : C ∉ frs l) (k : ∀ b, b ≠ C → h'.get? b = h.get? b) (kB : ∀ b o, B'.get? b = some o → B.get? b = some o) : h'.FunFrames B' l := by
  induction l with
  | nil => trivial
  | cons e r ih =>
    obtain ⟨a1, ⟨L, o, a2, a3, a4, a5⟩, a6⟩ := f
    have nL : L ≠ C := fun z => nC (List.mem_filterMap.mpr ⟨e, List.mem_cons_self .., by rw [a2, z]⟩)
    have nB : B'.get? L = none := by
      cases z : B'.get? L with
      | none => rfl
      | some o' => have := kB _ _ z; rw [a3] at this; cases this
    refine ⟨a1, ⟨L, o, a2, nB, (k L nL).trans a4, a5⟩, ih a6 fun z => nC ?_⟩
    obtain ⟨e', m, q⟩ := List.mem_filterMap.mp z
    exact List.mem_filterMap.mpr ⟨e', List.mem_cons_of_mem _ m, q⟩
theorem traced_move {h h' B B' : Heap} {C a : Addr} {Z : Obj → Prop} {v : Value} (t : HandSPX.TracedZ h B a Z v) (na : a ≠ C) (k : ∀ b, b ≠ C → h'.get? b = h.get? b) (hC : ∃ o, B.get? C = some o) (kB : ∀ b o, B'.get? b = some o → B.get? b = some o) : HandSPX.TracedZ h' B' a Z v := by
  obtain ⟨oe, vs, T, oT, ts, q1, q2, q3, q4, q5, q6, q7, q8, q9⟩ := t
  have nT : T ≠ C := fun z => by
    obtain ⟨o, e⟩ := hC
    rw [z, e] at q5; cases q5
  have nB : B'.get? T = none := by
    cases z : B'.get? T with
    | none => rfl
    | some o' => have := kB _ _ z; rw [q5] at this; cases this
  exact ⟨oe, vs, T, oT, ts, (k a na).trans q1, q2, q3, q4, nB, q6, (k T nT).trans q7, q8, q9⟩
section
variable {X : Cx} {pins : List (Addr × Obj)} {σ : L2.St} {H : Hp} {s s' : Shared}
theorem let_out {EX : XK} {C : Addr} {m : Str → Option Value} {scope : Scope} {cl : List (Str × Addr)} {u : Value} (hs : X.stack = X.env :: X.outer) (hf : X.env.frame = some X.env.locals) (tk : Takes X (fun c d _ H' => EX c d H'))
    (J : Inv X pins σ H s) (fC : FpOk X pins H C) (hn : s.heap.Ns C m) (c : CX X.prog X.w X.stack H s EX u s') :
    notedBy (model X.prog X.w) X.A (compEnvC scope cl C X.env) (CompFails (model X.prog X.w) X.A X.xe (compEnvC scope cl C X.env)) u s' := by
  obtain ⟨a, B, H', cls, d, rfl, fl, hok, ub, na, os, ag, hE⟩ := c
  have nC : C ∉ frs X.stack := fun z => by
    rw [hs] at z
    have z2 : C ∈ X.env.locals :: frs X.outer := by
      unfold frs at z
      rw [List.filterMap_cons, hf] at z
      exact z
    rcases List.mem_cons.mp z2 with z3 | z3
    · exact fC.2.1 z3
    · exact fC.2.2.1 z3
  obtain ⟨oC, esC, epC, gC, dC, rC⟩ := hn
  have bC : B.get? C = some oC := ub.keep C oC gC fC.1 nC
  have naC : a ≠ C := fun z => by
    have q := fl.2.1
    rw [z, bC] at q; cases q
  have hfr : X.A.frames = some (X.env :: X.outer) := by rw [J.ok.frames, hs]
  show wpAny _ _ (noteFrame (.ref a) (compEnvC scope cl C X.env)) _ _ s'
  rw [same_frame]
  refine HandSPX.looks_onZ Zc.steady hfr hf (by rw [hs] at fl; exact fl) fun h1 hh up => ?_
  refine ⟨m, ⟨oC, esC, epC, hh.1 C oC bC, dC, rC⟩, fun h2 m2 _ sb => ?_⟩
  have same2 : ∀ b, b ≠ C → h2.get? b = h1.get? b := fun b n => sb.2 b n
  obtain ⟨B2, g1, g2⟩ := without B C
  have kB : ∀ b o, B2.get? b = some o → B.get? b = some o := fun b o e => by
    by_cases z : b = C
    · rw [z, g2] at e; cases e
    · rw [g1 b z] at e; exact e
  have hs2 : B2.StaysIn h2 := fun b o e => by
    by_cases z : b = C
    · rw [z, g2] at e; cases e
    · rw [same2 b z]; exact hh.1 b o (kB b o e)
  have ff2 : h2.FunFrames B2 (X.env :: X.outer) := frames_move hh.2.2.1 (by rw [← hs]; exact nC) same2 kB
  have tr2 : HandSPX.TracedZ h2 B2 a (Zc cls d) (rawInt X.env.locals) := traced_move hh.2.2.2 naC same2 ⟨_, bC⟩ kB
  have a2 : B2.get? a = none := by
    cases z : B2.get? a with
    | none => rfl
    | some o => have := kB _ _ z; rw [fl.2.1] at this; cases this
  have hh2 : HandSPX.HeldZ B2 (X.env :: X.outer) a (Zc cls d) X.env.locals h2 := ⟨hs2, a2, ff2, tr2⟩
  obtain ⟨oe, vs, T, oT, ts, q1, q2, q3, q4, q5, q6, q7, q8, q9⟩ := tr2
  show wpAny _ _ (PySem.passOn _ (.ref a) _) _ _ _
  unfold PySem.passOn
  refine wpAny_bind (wpAny_field (s := { s' with heap := h2 }) q1 q3 q4 ?_)
  rw [if_neg (show ¬ ((Value.ref T == Value.none) = true) from by simp)]
  refine wpAny_bind ?_
  show wpAny _ _ (setFlight (.ref a) X.env.frame) _ _ _
  rw [hf]
  refine HandSPX.setFlight_onZ (s := { s' with heap := h2 }) hh2 fun h3 hh3 up3 => ?_
  refine wpAny_throw (tk _ _ ?_)
  obtain ⟨G, r1, r2⟩ := restrict h3 fun b => (B2.get? b).isSome || decide (b ∈ frs X.stack)
  have gB : ∀ b o, B2.get? b = some o → G.get? b = some o := fun b o e => (r1 b (by simp [e])).trans (hh3.1 b o e)
  have inG : ∀ b o, G.get? b = some o → h3.get? b = some o ∧ ((B2.get? b).isSome = true ∨ b ∈ frs X.stack) := fun b o e => by
    by_cases z : ((B2.get? b).isSome || decide (b ∈ frs X.stack)) = true
    · rw [r1 b z] at e
      exact ⟨e, by simpa using z⟩
    · rw [r2 b (Bool.eq_false_iff.mpr z)] at e; cases e
  have onF : ∀ b, b ∈ frs X.stack → ∀ o, s.heap.get? b = some o → ∃ sl, G.get? b = some { o with slots := sl } := fun b hb o e => by
    obtain ⟨_, o0, e0, nf⟩ := J.stack.mem hb
    rw [e] at e0; cases e0
    obtain ⟨s1, e1⟩ := ub.slot b o e hb
    obtain ⟨s2, e2⟩ := up b _ e1 nf
    have e3 : h2.get? b = some { o with slots := s2 } := (same2 b (fun z => nC (z ▸ hb))).trans e2
    obtain ⟨s4, e4⟩ := up3 b _ e3 nf
    exact ⟨s4, (r1 b (by simp [hb])).trans e4⟩
  have keepB : ∀ b o, s.heap.get? b = some o → H b = none → b ∉ frs X.stack → b ≠ C → B2.get? b = some o := fun b o e n hb nb => (g1 b nb).trans (ub.keep b o e n hb)
  have thB : ∀ b o, s.heap.get? b = some o → b ∉ frs X.stack → b ≠ C → ∃ o', B2.get? b = some o' := fun b o e hb nb => by
    obtain ⟨o', q⟩ := ub.there b o e hb
    exact ⟨o', (g1 b nb).trans q⟩
  have hokG : HOk X.prog X.w H' G := fun b o q => by
    have nb : b ≠ C := fun z => by
      have := ub.free C oC gC fC.1
      rw [← z, q] at this; cases this
    refine (hok b o q).stay (fun c u hc r => gB c u ((g1 c ?_).trans r)) (fun _ r => r) fun _ _ r => r
    rcases hc with hc | hc
    · rw [hc]; exact nb
    · intro z
      have := ub.free C oC gC fC.1
      rw [← z, hc] at this; cases this
  have J2 : Inv X pins σ H' { s with heap := G, gens := s'.gens, drawn := s'.drawn, toks := s'.toks } := by
    refine J.call (ch := [C]) ⟨fun b o e n hb hc => gB b o (keepB b o e n hb (fun z => hc (by simp [z]))), fun b o e n hb _ => onF b hb o e, fun b o e n _ => ub.free b o e n, fun b o e hc => ?_, ub.tups, ub.frzs, ub.tbls⟩ hokG ag (fun b hb => ?_)
    · by_cases hb : b ∈ frs X.stack
      · obtain ⟨sl, q⟩ := onF b hb o e
        exact ⟨_, q⟩
      · obtain ⟨o', q⟩ := thB b o e hb (fun z => hc (by simp [z]))
        exact ⟨o', gB b o' q⟩
    · rw [List.mem_singleton.mp hb]
      exact ⟨fC.2.2.2.1, fC.2.1, fC.2.2.2.2.1, fC.2.2.2.2.2⟩
  refine ⟨a, B2, _, pins, σ, H', cls, d, rfl, J2, fun b o e hb => ?_, Heap.UpToSlots.of_keeps fun b o e => (inG b o e).1, .inr (.inr (by rw [hs]; exact hh3)), na, os, ag, hE⟩
  obtain ⟨e', z⟩ := inG b o e
  rcases z with z | z
  · obtain ⟨o', q⟩ := Option.isSome_iff_exists.mp z
    have := hh3.1 b o' q
    rw [e'] at this; cases this
    exact q
  · exact absurd z hb
/-- a list comprehension whose element may raise what EX wishes of -/
theorem pe_lcX {elt tg iter : Expr} {ifs : List Expr} {scope : Scope} {own : List (Str × Nat)} {pos : Pos} {wi : TI} {g : TG} {tt : TT} {te : TE} {EX : XK}
    (hc : X.calm = true) (hN : X.N.Nodup) (hst : X.stack = X.env :: X.outer) (hfr : X.env.frame = some X.env.locals) (tk : Takes X fun c d _ H' => EX c d H') (hi : PI X tg iter wi) (ok : BlkOk X.N X.env.scope scope own)
    (hg : ∀ (s0 : Shared) (H0 : Hp) (C : Addr) (cl : List (Str × Addr)) (fp : List Addr), PG (X.blk s0 H0 scope (compEnvC scope cl C X.env) fp) tg g)
    (ht : ∀ (s0 : Shared) (H0 : Hp) (C : Addr) (cl : List (Str × Addr)) (fp : List Addr), PTs (X.blk s0 H0 scope (compEnvC scope cl C X.env) fp) ifs tt)
    (he : ∀ (s0 : Shared) (H0 : Hp) (C : Addr) (cl : List (Str × Addr)) (fp : List Addr) (EE : Value → Shared → Prop), Passes (L2.CX X.prog X.w) ((X.blk s0 H0 scope (compEnvC scope cl C X.env) fp).wish EE) EX → PE ((X.blk s0 H0 scope (compEnvC scope cl C X.env) fp).wish EE) elt te)
    (hs : ∀ x, foldedSetIterable iter X.env x = pure x := by intro _; rfl) : PE X (.ListComp elt [⟨tg, iter, ifs, 0⟩] scope pos) (tLc wi g tt te (own.map (·.2))) := by
  constructor
  intro pins s σ H Q I rd
  have captured : ∀ y ∈ scope.names, y.2 = .free → ∃ c, X.env.cells.lookup y.1 = some c := fun y hy e => (ok.free y hy e).elim (fun k => I.ok.has _ (.inl k)) fun k => I.ok.has _ (.inr k)
  rw [eval_ListComp]
  refine comprehension_at (use := none) rfl hs (closure_ok captured) ok.kind (fun y hy e => (ok.uniq y hy).trans (congrArg some e)) (thn (hi.run pins s σ H _ I rd) fun v1 t1 r1 => thn r1 fun v2 t2 r2 => ?_)
  obtain ⟨it, fp, tn, J, H2, rfl, I2, T, st2, f2, q⟩ := r2
  refine wpAny_newObj_type (newEnv_comp ?_) (by show 0 ≤ sizeLine; decide)
  obtain ⟨D, hD⟩ : ∃ D, D = t2.heap.objs.size := ⟨_, rfl⟩
  rw [← hD]
  have freeD : H2 D = none := I2.hok.fresh (Nat.le_of_eq hD.symm)
  obtain ⟨W, ⟨m0, w0⟩, turn⟩ := q D freeD
  obtain ⟨t3, h3⟩ : ∃ t3 : Shared, t3 = { t2 with heap := t2.heap.push { cls := .type "list", data := .seq ([] : List Value).toArray } } := ⟨_, rfl⟩
  have hp3 : t3.heap = t2.heap.push { cls := .type "list", data := .seq ([] : List Value).toArray } := by rw [h3]
  obtain ⟨H3, hH3⟩ : ∃ H3, H3 = upd H2 D (.lst []) := ⟨_, rfl⟩
  have I3 : Inv X pins σ H3 t3 := by
    have := I2.laid (t' := t2.toks) (a := D) (o := .lst []) (h' := t3.heap) (fun b o e => by rw [hp3]; exact Heap.get?_push_of_some _ e) (Nat.le_of_eq hD.symm) ⟨Nat.zero_le _, [], 0, .nil, by rw [hp3, hD]; exact Heap.get?_push_size _ rfl⟩
    rw [hH3]
    rw [h3] at this ⊢
    exact this
  have younger : ∀ b ∈ fp, b < t2.heap.objs.size := fun b hb => let ⟨_, e, _⟩ := T.obj _ _ st2 b hb; Heap.lt_size e
  have f3 : ∀ b ∈ fp, FpOk X pins H3 b ∧ b < t3.heap.objs.size := fun b hb => by
    have lt := younger b hb
    refine ⟨⟨?_, (f2 b hb).2⟩, by rw [hp3, Heap.size_push]; exact Nat.lt_succ_of_lt lt⟩
    rw [hH3, upd_ne (by rw [hD]; exact Nat.ne_of_lt lt)]
    exact (f2 b hb).1
  have st3 : tn 0 t3.heap := T.keep _ _ _ st2 fun b _ o e => by rw [hp3]; exact Heap.get?_push_of_some _ e
  have I4 := block_start I3 ok hN f3
  obtain ⟨cl, hcl⟩ : ∃ cl, cl = cellsFrom (t3.heap.objs.size + 1) scope.names (cloFrom X.env.cells scope.names []) := ⟨_, rfl⟩
  rw [← hcl] at I4
  obtain ⟨C, hC⟩ : ∃ C, C = t3.heap.objs.size := ⟨_, rfl⟩
  have E4 : ∀ (ce : Env), ce = compEnvC scope cl C X.env → codeAny (model X.prog X.w) X.A (.compStart (.ListComp elt [⟨tg, iter, ifs, 0⟩] scope pos) 0 (.ref it) (.ref D) ce) (compEnds (model X.prog X.w) X.A X.xe none (EP X pins σ Q) (.ref D) ce) { t3 with heap := pushCells (t3.heap.push { cls := .type "dict", data := .dict #[] }) scope.names } := by
    intro ce hce
    have pg := hg t3 H3 C cl fp
    have pt := ht t3 H3 C cl fp
    have pe := he t3 H3 C cl fp
    rw [← hC] at I4
    rw [← hce] at I4 pg pt pe
    have cL : ce.locals = C := by rw [hce]; rfl
    obtain ⟨t4, h4⟩ : ∃ t4 : Shared, t4 = { t3 with heap := pushCells (t3.heap.push { cls := .type "dict", data := .dict #[] }) scope.names } := ⟨_, rfl⟩
    rw [← h4] at I4 ⊢
    have st4 : tn 0 t4.heap := T.keep _ _ _ st3 fun b _ o e => by rw [h4]; exact pushCells_keeps _ _ _ _ (Heap.get?_push_of_some _ e)
    -- back to the def around
    have back : ∀ {p' : List (Addr × Obj)} {σ' : L2.St} {H' : Hp} {s' : Shared}, Inv (X.blk t3 H3 scope ce fp) p' σ' H' s' → Inv X pins σ H' s' ∧ FpOk X pins H' C ∧ ∃ m, s'.heap.Ns C m := fun {p' σ' H' s'} I' => by
      have z : H' ce.locals = none := I'.free
      obtain ⟨m, hn, _⟩ := I'.loc
      have hn' : s'.heap.Ns ce.locals m := hn
      rw [cL] at z hn'
      exact ⟨I3.call' (ch := fp) I'.os I'.base I'.hok I'.bare fun b hb => let f := (f3 b hb).1; ⟨f.2.2.2.1, f.2.1, f.2.2.2.2.1, f.2.2.2.2.2⟩, I3.fpOk (by rw [hC]; exact Nat.le_refl _) z, m, hn'⟩
    have pass : Passes (L2.CX X.prog X.w) ((X.blk t3 H3 scope ce fp).wish (notedBy (model X.prog X.w) X.A ce (CompFails (model X.prog X.w) X.A X.xe ce))) EX := fun p' σ' H' s1 e s2 I' cx => by
      obtain ⟨B1, B2, m, B3⟩ := back I'.unwish
      have := let_out (scope := scope) (cl := cl) hst hfr tk B1 B2 B3 cx
      rw [← hce] at this
      exact this
    have pe' := pe _ pass
    have at_fp : ∀ {σ' : L2.St} {H' : Hp} {s' : Shared}, Inv (X.blk t3 H3 scope ce fp) [] σ' H' s' → (∀ b ∈ fp, H' b = none) → ∀ b ∈ fp, FpOk (X.blk t3 H3 scope ce fp) [] H' b := fun {σ' H' s'} I' hn b hb => by
      refine ⟨hn b hb, (I'.ok.exf b hb).1, I'.ok.exfs b hb, .inl hb, fun x c e => (I'.ok.exf b hb).2 x c e, fun p hp => ?_⟩
      have hp' : p ∈ ([] : List (Addr × Obj)) ++ [] := hp
      cases hp'
    have loop : codeAny (model X.prog X.w) X.A (.compLoop (.ListComp elt [⟨tg, iter, ifs, 0⟩] scope pos) 0 (.ref it) (.ref D) ce) (compEnds (model X.prog X.w) X.A X.xe none (EP X pins σ Q) (.ref D) ce) t4 := by
      refine compLoop_any (fun n t => ∃ (i : Nat) (H' : Hp), Inv (X.blk t3 H3 scope ce fp) [] (wipe σ (own.map (·.2))) H' t ∧ tn i t.heap ∧ (∀ b ∈ fp, H' b = none) ∧ W i n H') ?_ m0 ⟨0, H3, I4, st4, fun b hb => (f3 b hb).1.1, by rw [hH3]; exact w0⟩
      rintro n t5 ⟨i, H5, I5, st5, n5, w5⟩
      rcases turn i n H5 w5 with ⟨stop, fin⟩ | ⟨go, Nx, hNx, one⟩
      · refine thnF (T.done (X.blk t3 H3 scope ce fp) rfl rfl rfl hc i [] t5 _ H5 (fun _ _ => False) I5 (at_fp I5 n5) st5 stop) fun r t6 ⟨hr, I6⟩ => ?_
        subst hr
        obtain ⟨B1, B2, m, B3⟩ := back I6
        refine ⟨m, by rw [cL]; exact B3, fun h'' sb => ?_⟩
        rw [cL] at sb
        obtain ⟨z0, z1, z2, z3, z4, z5⟩ := B2
        exact ⟨.ref D, H5, B1.turned (t' := t6.toks) (fun b o hb e => (sb.2 b hb).trans e) z0 z1 z3 z4 z5, rfl, fin⟩
      · refine thnF (T.item (X.blk t3 H3 scope ce fp) rfl rfl rfl hc i [] t5 _ H5 (fun _ _ => False) I5 (at_fp I5 n5) st5 go) fun r t6 ⟨u, hr, r6⟩ => ?_
        subst hr
        refine thnF r6 fun _ t7 ⟨x, H7, I7, rx, y7, st7, n7⟩ => ?_
        have P7 := I7.pinned (at_fp I7 n7) (T.obj _ _ st7)
        refine thnF (pg.run _ t7 _ H7 x u _ P7 rx (one x H7 y7)) fun _ t8 ⟨σ8, H8, I8, hw8, q8⟩ => ?_
        refine thnF (pt.run _ t8 σ8 H8 _ I8 q8) fun b t9 ⟨H9, I9, q9⟩ => ?_
        have close : ∀ {t : Shared} {H' : Hp}, Inv (X.blk t3 H3 scope ce fp) ([] ++ pinsAt fp t7.heap) σ8 H' t → Nx H' → ∃ m, m < n ∧ ∃ (i : Nat) (H' : Hp), Inv (X.blk t3 H3 scope ce fp) [] (wipe σ (own.map (·.2))) H' t ∧ tn i t.heap ∧ (∀ b ∈ fp, H' b = none) ∧ W i m H' := fun {t H'} I' nx => by
          obtain ⟨m', lt, w'⟩ := hNx H' nx
          have still : ∀ b ∈ fp, ∀ o, t7.heap.get? b = some o → t.heap.get? b = some o ∧ H' b = none := fun b hb o e => by
            have z := I'.pin (b, o) (List.mem_append_right _ (List.mem_append_right _ (mem_pinsAt hb e)))
            exact ⟨z.1, z.2.1⟩
          refine ⟨m', lt, i + 1, H', (I'.unpinned (pins := [])).weak (by rw [← hw8, wipe_length]) (fun j v e => by rw [← hw8] at e; exact (wipe_some e).1), T.keep _ _ _ st7 fun b hb o e => (still b hb o e).1, fun b hb => ?_, w'⟩
          obtain ⟨o, e, _⟩ := T.obj _ _ st7 b hb
          exact (still b hb o e).2
        by_cases hb : b = true
        · subst hb
          rw [if_pos rfl] at q9 ⊢
          refine wpAny_mono (pe'.run _ t9 σ8 H9 _ (I9.wish _) q9) (fun y t10 r10 => ?_) fun _ _ z => z
          obtain ⟨yv, H10, I10, ry, acc, hD10, hz10, nx⟩ := r10
          exact app_ok (X := X.blk t3 H3 scope ce fp) I10.unwish hD10 hz10 ry fun t11 I11 => close I11 nx
        · obtain rfl : b = false := by simpa using hb
          exact close I9 q9
    exact codeAny_compStart_list loop (T.self X.A 0 _ _ _ st4 loop)
  have fin := E4 _ rfl
  rw [hC, hcl, h3] at fin
  exact fin
end
end LX

namespace ZN
open PySem PySem.Spec PyProof.Rows L2
/-! ### zip of three, of four lists -/
abbrev IsTupA (h : Heap) (T : Addr) (a : Array Value) : Prop := h.get? T = some { cls := .type "tuple", data := .seq a }
theorem set_tup {prog : Program} {w : World} {A : Around} {E : Value → Shared → Prop} {s : Shared} {T : Addr} {a : Array Value} {x : Value} {k : Nat} {Q : Unit → Shared → Prop} (hT : IsTupA s.heap T a) (hz : a.size ≤ sizeLine)
    (q : ∀ h', IsTupA h' T (a.setIfInBounds k x) → (∀ c o, c ≠ T → s.heap.get? c = some o → h'.get? c = some o) → h'.objs.size = s.heap.objs.size → Q () { s with heap := h' }) : wpAny (model prog w) A (updateSeq T (·.setIfInBounds k x)) Q E s := by
  have sb : Heap.SameBut T s.heap (s.heap.update T (Obj.mapSeq (·.setIfInBounds k x))) := Heap.SameBut.update ..
  refine wpAny_updateSeq hT rfl (q _ ?_ (fun c o n e => (sb.2 c n).trans e) sb.1) hz (by rw [Array.size_setIfInBounds]; exact Nat.le_succ_of_le hz)
  show (s.heap.update T _).get? T = _
  rw [Heap.get?_update_self _ hT rfl]
  simp [Obj.mapSeq]
theorem vals_cons {v : V} {vs : List V} {us : List Value} (h : Vals (v :: vs) us) : ∃ u ws, us = u :: ws ∧ RelV v u ∧ Vals vs ws := by
  cases h with
  | cons a b => exact ⟨_, _, rfl, a, b⟩
theorem vals_nil {us : List Value} (h : Vals [] us) : us = [] := by cases h; rfl
theorem at_top {h : Heap} {o o' : Obj} {a : Addr} (e : a = h.objs.size) (q : (h.push o).get? h.objs.size = some o') : (h.push o).get? a = some o' := e ▸ q
section
variable {prog : Program} {w : World} {A : Around} {E : Value → Shared → Prop} {s : Shared}
theorem item3 {z TI TO i1 i2 i3 l1 l2 l3 : Addr} {k : Nat} {xs1 xs2 xs3 : Array Value} {a1 a2 a3 : Value} {x1 x2 x3 : Value} {Q : Value → Shared → Prop} (D : [z, TI, TO, i1, i2, i3].Nodup) (d1 : l1 ∉ [z, TO, i1, i2, i3]) (d2 : l2 ∉ [z, TO, i1, i2, i3]) (d3 : l3 ∉ [z, TO, i1, i2, i3]) (hz : IsZip s.heap z TI TO .none) (hI : IsTupA s.heap TI #[.ref i1, .ref i2, .ref i3]) (hO : IsTupA s.heap TO #[a1, a2, a3]) (h1 : s.heap.IsListIter i1 l1 k) (g1 : s.heap.IsList l1 xs1) (h2 : s.heap.IsListIter i2 l2 k) (g2 : s.heap.IsList l2 xs2) (h3 : s.heap.IsListIter i3 l3 k) (g3 : s.heap.IsList l3 xs3) (e1 : xs1[k]? = some x1) (e2 : xs2[k]? = some x2) (e3 : xs3[k]? = some x3)
    (hQ : ∀ h', IsZip h' z TI TO (rawInt s.heap.objs.size) → IsTupA h' TO #[x1, x2, x3] → h'.IsListIter i1 l1 (k + 1) → h'.IsListIter i2 l2 (k + 1) → h'.IsListIter i3 l3 (k + 1) → IsTupA h' s.heap.objs.size #[x1, x2, x3] → h'.objs.size = s.heap.objs.size + 1 → (∀ c o, c ∉ [z, TO, i1, i2, i3] → s.heap.get? c = some o → h'.get? c = some o) → Q (.ref s.heap.objs.size) { s with heap := h' }) :
    wpAny (model prog w) A (Builtin.«zip.__next__» ⟨[.ref z], []⟩) (fun fin s' => ∃ v, fin = .done (.ret v) ∧ Q v s') E s := by
  have nTz : TO ≠ z := fun q => by simp [q] at D
  have nz1 : i1 ≠ z := fun q => by simp [q] at D
  have nT1 : i1 ≠ TO := fun q => by simp [q] at D
  have n12 : i1 ≠ i2 := fun q => by simp [q] at D
  have n13 : i1 ≠ i3 := fun q => by simp [q] at D
  have lz1 : l1 ≠ z := fun q => d1 (by simp [q])
  have lT1 : l1 ≠ TO := fun q => d1 (by simp [q])
  have ll11 : l1 ≠ i1 := fun q => d1 (by simp [q])
  have ll12 : l1 ≠ i2 := fun q => d1 (by simp [q])
  have ll13 : l1 ≠ i3 := fun q => d1 (by simp [q])
  have nz2 : i2 ≠ z := fun q => by simp [q] at D
  have nT2 : i2 ≠ TO := fun q => by simp [q] at D
  have n23 : i2 ≠ i3 := fun q => by simp [q] at D
  have lz2 : l2 ≠ z := fun q => d2 (by simp [q])
  have lT2 : l2 ≠ TO := fun q => d2 (by simp [q])
  have ll21 : l2 ≠ i1 := fun q => d2 (by simp [q])
  have ll22 : l2 ≠ i2 := fun q => d2 (by simp [q])
  have ll23 : l2 ≠ i3 := fun q => d2 (by simp [q])
  have nz3 : i3 ≠ z := fun q => by simp [q] at D
  have nT3 : i3 ≠ TO := fun q => by simp [q] at D
  have lz3 : l3 ≠ z := fun q => d3 (by simp [q])
  have lT3 : l3 ≠ TO := fun q => d3 (by simp [q])
  have ll31 : l3 ≠ i1 := fun q => d3 (by simp [q])
  have ll32 : l3 ≠ i2 := fun q => d3 (by simp [q])
  have ll33 : l3 ≠ i3 := fun q => d3 (by simp [q])
  show wpAny _ _ (field (.ref z) 2 >>= _) _ _ s
  refine wpAny_bind (wpAny_field hz rfl (x := .bool false) rfl ?_)
  show wpAny _ _ (field (.ref z) 3 >>= _) _ _ s
  refine wpAny_bind (wpAny_field hz rfl (x := .ref TI) rfl (wpAny_bind (wpAny_seqItems hI rfl ?_)))
  show wpAny _ _ (Builtin.SmallTypes.ownedTupleIsFree (.ref z) >>= _) _ _ s
  unfold Builtin.SmallTypes.ownedTupleIsFree
  refine wpAny_bind (wpAny_bind (wpAny_field hz rfl (x := .none) rfl (wpAny_pure ?_)))
  simp only [if_true]
  refine wpAny_bind (wpAny_rule (wpAny_bind (wpAny_field hz rfl (x := .ref TO) rfl (wpAny_bind (wpAny_setField_rec hz (by simp) fun b0 z0 c0 => ?_)))))
  have z0 : IsZip b0 z TI TO .ellipsis := z0
  have K0 : ∀ c o, c ∉ [z, TO, i1, i2, i3] → s.heap.get? c = some o → b0.get? c = some o := fun c o m e => (c0.2 c (fun q => m (by simp [q]))).trans e
  have S0 := c0.1
  have O0 : IsTupA b0 TO #[a1, a2, a3] := (c0.2 TO nTz).trans hO
  have I0_1 : b0.IsListIter i1 l1 k := h1.at fun o e => (c0.2 _ nz1).trans e
  have L0_1 : b0.IsList l1 xs1 := g1.at fun o e => (c0.2 _ lz1).trans e
  have I0_2 : b0.IsListIter i2 l2 k := h2.at fun o e => (c0.2 _ nz2).trans e
  have L0_2 : b0.IsList l2 xs2 := g2.at fun o e => (c0.2 _ lz2).trans e
  have I0_3 : b0.IsListIter i3 l3 k := h3.at fun o e => (c0.2 _ nz3).trans e
  have L0_3 : b0.IsList l3 xs3 := g3.at fun o e => (c0.2 _ lz3).trans e
  refine wpAny_bind ?_
  simp only [List.zipIdx_cons, List.zipIdx_nil, List.forIn_cons, List.forIn_nil]
  refine wpAny_bind (wpAny_bind (wpAny_onRaise ?_))
  show wpAny _ _ (Builtin.SmallTypes.nextOf (.ref i1) >>= _) _ _ _
  refine wpAny_bind (wpAny_nextOf_list_item (s := { s with heap := b0 }) I0_1 L0_1 e1 fun m1 J1 c1 => wpAny_pure ?_)
  have P1 : IsTupA m1 TO #[a1, a2, a3] := (c1.2 TO nT1.symm).trans O0
  refine wpAny_bind (wpAny_seqItems (s := { s with heap := m1 }) P1 rfl (wpAny_bind (set_tup (s := { s with heap := m1 }) P1 (by show 3 ≤ sizeLine; decide) fun b1 O1 u1 S1' => wpAny_bind (wpAny_letGo (wpAny_pure ?_)))))
  have O1 : IsTupA b1 TO #[x1, a2, a3] := O1
  have z1 : IsZip b1 z TI TO .ellipsis := u1 _ _ nTz.symm ((c1.2 z nz1.symm).trans z0)
  have K1 : ∀ c o, c ∉ [z, TO, i1, i2, i3] → s.heap.get? c = some o → b1.get? c = some o := fun c o m e => u1 c o (fun q => m (by simp [q])) ((c1.2 c (fun q => m (by simp [q]))).trans (K0 c o m e))
  have S1 : b1.objs.size = s.heap.objs.size := S1'.trans (c1.1.trans S0)
  have I1_1 : b1.IsListIter i1 l1 (k + 1) := J1.at fun o e => u1 _ o nT1 e
  have L1_1 : b1.IsList l1 xs1 := L0_1.at fun o e => u1 _ o lT1 ((c1.2 _ ll11).trans e)
  have I1_2 : b1.IsListIter i2 l2 k := I0_2.at fun o e => u1 _ o nT2 ((c1.2 _ n12.symm).trans e)
  have L1_2 : b1.IsList l2 xs2 := L0_2.at fun o e => u1 _ o lT2 ((c1.2 _ ll21).trans e)
  have I1_3 : b1.IsListIter i3 l3 k := I0_3.at fun o e => u1 _ o nT3 ((c1.2 _ n13.symm).trans e)
  have L1_3 : b1.IsList l3 xs3 := L0_3.at fun o e => u1 _ o lT3 ((c1.2 _ ll31).trans e)
  refine wpAny_bind (wpAny_bind (wpAny_onRaise ?_))
  show wpAny _ _ (Builtin.SmallTypes.nextOf (.ref i2) >>= _) _ _ _
  refine wpAny_bind (wpAny_nextOf_list_item (s := { s with heap := b1 }) I1_2 L1_2 e2 fun m2 J2 c2 => wpAny_pure ?_)
  have P2 : IsTupA m2 TO #[x1, a2, a3] := (c2.2 TO nT2.symm).trans O1
  refine wpAny_bind (wpAny_seqItems (s := { s with heap := m2 }) P2 rfl (wpAny_bind (set_tup (s := { s with heap := m2 }) P2 (by show 3 ≤ sizeLine; decide) fun b2 O2 u2 S2' => wpAny_bind (wpAny_letGo (wpAny_pure ?_)))))
  have O2 : IsTupA b2 TO #[x1, x2, a3] := O2
  have z2 : IsZip b2 z TI TO .ellipsis := u2 _ _ nTz.symm ((c2.2 z nz2.symm).trans z1)
  have K2 : ∀ c o, c ∉ [z, TO, i1, i2, i3] → s.heap.get? c = some o → b2.get? c = some o := fun c o m e => u2 c o (fun q => m (by simp [q])) ((c2.2 c (fun q => m (by simp [q]))).trans (K1 c o m e))
  have S2 : b2.objs.size = s.heap.objs.size := S2'.trans (c2.1.trans S1)
  have I2_1 : b2.IsListIter i1 l1 (k + 1) := I1_1.at fun o e => u2 _ o nT1 ((c2.2 _ n12).trans e)
  have L2_1 : b2.IsList l1 xs1 := L1_1.at fun o e => u2 _ o lT1 ((c2.2 _ ll12).trans e)
  have I2_2 : b2.IsListIter i2 l2 (k + 1) := J2.at fun o e => u2 _ o nT2 e
  have L2_2 : b2.IsList l2 xs2 := L1_2.at fun o e => u2 _ o lT2 ((c2.2 _ ll22).trans e)
  have I2_3 : b2.IsListIter i3 l3 k := I1_3.at fun o e => u2 _ o nT3 ((c2.2 _ n23.symm).trans e)
  have L2_3 : b2.IsList l3 xs3 := L1_3.at fun o e => u2 _ o lT3 ((c2.2 _ ll32).trans e)
  refine wpAny_bind (wpAny_bind (wpAny_onRaise ?_))
  show wpAny _ _ (Builtin.SmallTypes.nextOf (.ref i3) >>= _) _ _ _
  refine wpAny_bind (wpAny_nextOf_list_item (s := { s with heap := b2 }) I2_3 L2_3 e3 fun m3 J3 c3 => wpAny_pure ?_)
  have P3 : IsTupA m3 TO #[x1, x2, a3] := (c3.2 TO nT3.symm).trans O2
  refine wpAny_bind (wpAny_seqItems (s := { s with heap := m3 }) P3 rfl (wpAny_bind (set_tup (s := { s with heap := m3 }) P3 (by show 3 ≤ sizeLine; decide) fun b3 O3 u3 S3' => wpAny_bind (wpAny_letGo (wpAny_pure (wpAny_pure ?_))))))
  have O3 : IsTupA b3 TO #[x1, x2, x3] := O3
  have z3 : IsZip b3 z TI TO .ellipsis := u3 _ _ nTz.symm ((c3.2 z nz3.symm).trans z2)
  have K3 : ∀ c o, c ∉ [z, TO, i1, i2, i3] → s.heap.get? c = some o → b3.get? c = some o := fun c o m e => u3 c o (fun q => m (by simp [q])) ((c3.2 c (fun q => m (by simp [q]))).trans (K2 c o m e))
  have S3 : b3.objs.size = s.heap.objs.size := S3'.trans (c3.1.trans S2)
  have I3_1 : b3.IsListIter i1 l1 (k + 1) := I2_1.at fun o e => u3 _ o nT1 ((c3.2 _ n13).trans e)
  have L3_1 : b3.IsList l1 xs1 := L2_1.at fun o e => u3 _ o lT1 ((c3.2 _ ll13).trans e)
  have I3_2 : b3.IsListIter i2 l2 (k + 1) := I2_2.at fun o e => u3 _ o nT2 ((c3.2 _ n23).trans e)
  have L3_2 : b3.IsList l2 xs2 := L2_2.at fun o e => u3 _ o lT2 ((c3.2 _ ll23).trans e)
  have I3_3 : b3.IsListIter i3 l3 (k + 1) := J3.at fun o e => u3 _ o nT3 e
  have L3_3 : b3.IsList l3 xs3 := L2_3.at fun o e => u3 _ o lT3 ((c3.2 _ ll33).trans e)
  refine wpAny_bind (wpAny_seqItems (s := { s with heap := b3 }) O3 rfl (wpAny_bind (wpAny_newTuple ?_)))
  show wpAny _ _ (Builtin.SmallTypes.ownedTupleHandOut (.ref z) (.ref b3.objs.size) >>= _) _ _ _
  unfold Builtin.SmallTypes.ownedTupleHandOut
  have zlt : z < b3.objs.size := Heap.lt_size z3
  have zP : IsZip (b3.push { cls := .type "tuple", data := .seq #[x1, x2, x3] }) z TI TO .ellipsis := Heap.get?_push_of_some _ z3
  refine wpAny_bind (wpAny_bind (wpAny_setField_rec (s := { s with heap := b3.push { cls := .type "tuple", data := .seq #[x1, x2, x3] } }) zP (by simp) fun v1 y1 t1 => ?_))
  have y1 : IsZip v1 z TI TO (rawInt b3.objs.size) := y1
  refine wpAny_setField_rec (s := { s with heap := v1 }) y1 (by simp) fun v2 y2 t2 => ?_
  have y2 : IsZip v2 z TI TO (rawInt b3.objs.size) := y2
  have go : ∀ c o, c ≠ z → b3.get? c = some o → v2.get? c = some o := fun c o m e => (t2.2 c m).trans ((t1.2 c m).trans (Heap.get?_push_of_some _ e))
  have nw : IsTupA v2 b3.objs.size #[x1, x2, x3] := (t2.2 _ (Nat.ne_of_gt zlt)).trans ((t1.2 _ (Nat.ne_of_gt zlt)).trans (Heap.get?_push_size _ rfl))
  have sz : v2.objs.size = b3.objs.size + 1 := t2.1.trans (t1.1.trans (Heap.size_push ..))
  rw [S3] at y2 nw sz
  refine wpAny_pure ⟨_, rfl, ?_⟩
  show Q (.ref b3.objs.size) _
  rw [S3]
  exact hQ v2 y2 (go _ _ nTz O3) (I3_1.at fun o e => go _ o nz1 e) (I3_2.at fun o e => go _ o nz2 e) (I3_3.at fun o e => go _ o nz3 e) nw sz fun c o m e => go c o (fun q => m (by simp [q])) (K3 c o m e)
theorem end3 {z TI TO i1 i2 i3 l1 l2 l3 : Addr} {k : Nat} {xs1 xs2 xs3 : Array Value} {a1 a2 a3 : Value} {Q : Fin → Shared → Prop} (hh : A.handled = none) (D : [z, TI, TO, i1, i2, i3].Nodup) (d1 : l1 ∉ [z, TO, i1, i2, i3]) (d2 : l2 ∉ [z, TO, i1, i2, i3]) (d3 : l3 ∉ [z, TO, i1, i2, i3]) (hz : IsZip s.heap z TI TO .none) (hI : IsTupA s.heap TI #[.ref i1, .ref i2, .ref i3]) (hO : IsTupA s.heap TO #[a1, a2, a3]) (h1 : s.heap.IsListIter i1 l1 k) (g1 : s.heap.IsList l1 xs1) (h2 : s.heap.IsListIter i2 l2 k) (g2 : s.heap.IsList l2 xs2) (h3 : s.heap.IsListIter i3 l3 k) (g3 : s.heap.IsList l3 xs3) (e1 : xs1[k]? = none)
    (hE : ∀ h' e, (∀ c o, c ∉ [z, TO, i1, i2, i3] → s.heap.get? c = some o → h'.get? c = some o) → (∃ o, h'.get? e = some o ∧ o.cls = .type "StopIteration") → E (.ref e) { s with heap := h' }) :
    wpAny (model prog w) A (Builtin.«zip.__next__» ⟨[.ref z], []⟩) Q E s := by
  have nz1 : i1 ≠ z := fun q => by simp [q] at D
  have lz1 : l1 ≠ z := fun q => d1 (by simp [q])
  show wpAny _ _ (field (.ref z) 2 >>= _) _ _ s
  refine wpAny_bind (wpAny_field hz rfl (x := .bool false) rfl ?_)
  show wpAny _ _ (field (.ref z) 3 >>= _) _ _ s
  refine wpAny_bind (wpAny_field hz rfl (x := .ref TI) rfl (wpAny_bind (wpAny_seqItems hI rfl ?_)))
  show wpAny _ _ (Builtin.SmallTypes.ownedTupleIsFree (.ref z) >>= _) _ _ s
  unfold Builtin.SmallTypes.ownedTupleIsFree
  refine wpAny_bind (wpAny_bind (wpAny_field hz rfl (x := .none) rfl (wpAny_pure ?_)))
  simp only [if_true]
  refine wpAny_bind (wpAny_rule (wpAny_bind (wpAny_field hz rfl (x := .ref TO) rfl (wpAny_bind (wpAny_setField_rec hz (by simp) fun b0 z0 c0 => ?_)))))
  have z0 : IsZip b0 z TI TO .ellipsis := z0
  refine wpAny_bind ?_
  simp only [List.zipIdx_cons, List.zipIdx_nil, List.forIn_cons, List.forIn_nil]
  refine wpAny_bind (wpAny_bind (wpAny_onRaise ?_))
  show wpAny _ _ (Builtin.SmallTypes.nextOf (.ref i1) >>= _) _ _ _
  refine wpAny_bind (wpAny_nextOf_list_end (s := { s with heap := b0 }) hh (h1.at fun o e => (c0.2 _ nz1).trans e) (g1.at fun o e => (c0.2 _ lz1).trans e) e1 fun b2 e c2 he => ?_)
  obtain ⟨oe, he1, he2⟩ := he
  have zz : IsZip b2 z TI TO .ellipsis := c2 _ _ nz1.symm z0
  have ne : e ≠ z := fun q => by rw [q, zz] at he1; cases he1; simp at he2
  refine wpAny_setField_rec (s := { s with heap := b2 }) zz (by simp) fun b3 _ c3 => hE b3 e (fun c o m q => (c3.2 c (fun r => m (by simp [r]))).trans (c2 _ _ (fun r => m (by simp [r])) ((c0.2 c (fun r => m (by simp [r]))).trans q))) ⟨oe, (c3.2 _ ne).trans he1, he2⟩
theorem next3 {z TI TO i1 i2 i3 l1 l2 l3 : Addr} {k : Nat} {xs1 xs2 xs3 : Array Value} {a1 a2 a3 : Value} {x1 x2 x3 : Value} {Q : Option Value → Shared → Prop} (D : [z, TI, TO, i1, i2, i3].Nodup) (d1 : l1 ∉ [z, TO, i1, i2, i3]) (d2 : l2 ∉ [z, TO, i1, i2, i3]) (d3 : l3 ∉ [z, TO, i1, i2, i3]) (hz : IsZip s.heap z TI TO .none) (hI : IsTupA s.heap TI #[.ref i1, .ref i2, .ref i3]) (hO : IsTupA s.heap TO #[a1, a2, a3]) (h1 : s.heap.IsListIter i1 l1 k) (g1 : s.heap.IsList l1 xs1) (h2 : s.heap.IsListIter i2 l2 k) (g2 : s.heap.IsList l2 xs2) (h3 : s.heap.IsListIter i3 l3 k) (g3 : s.heap.IsList l3 xs3) (e1 : xs1[k]? = some x1) (e2 : xs2[k]? = some x2) (e3 : xs3[k]? = some x3)
    (hQ : ∀ h', IsZip h' z TI TO (rawInt s.heap.objs.size) → IsTupA h' TO #[x1, x2, x3] → h'.IsListIter i1 l1 (k + 1) → h'.IsListIter i2 l2 (k + 1) → h'.IsListIter i3 l3 (k + 1) → IsTupA h' s.heap.objs.size #[x1, x2, x3] → h'.objs.size = s.heap.objs.size + 1 → (∀ c o, c ∉ [z, TO, i1, i2, i3] → s.heap.get? c = some o → h'.get? c = some o) → Q (some (.ref s.heap.objs.size)) { s with heap := h' }) :
    wpAny (model prog w) A (pyNext (.ref z)) Q E s := by
  have ty : s.TypeIs (.ref z) "zip" := ⟨_, hz, rfl⟩
  unfold pyNext
  exact wpAny_bind (wpAny_attempt (wpAny_callSpecial?_slot (name := Str.ofString "__next__") ty F.slot_zip_next (wpAny_call_entry F.slot_zip_next ty F.entry_zip_next (item3 D d1 d2 d3 hz hI hO h1 g1 h2 g2 h3 g3 e1 e2 e3 fun h' b1 b2 p1 p2 p3 b3 b4 b5 => wpAny_pure (hQ h' b1 b2 p1 p2 p3 b3 b4 b5)) (F.args_zip_next_1 _))))
theorem stop3 {z TI TO i1 i2 i3 l1 l2 l3 : Addr} {k : Nat} {xs1 xs2 xs3 : Array Value} {a1 a2 a3 : Value} {Q : Option Value → Shared → Prop} (hh : A.handled = none) (D : [z, TI, TO, i1, i2, i3].Nodup) (d1 : l1 ∉ [z, TO, i1, i2, i3]) (d2 : l2 ∉ [z, TO, i1, i2, i3]) (d3 : l3 ∉ [z, TO, i1, i2, i3]) (hz : IsZip s.heap z TI TO .none) (hI : IsTupA s.heap TI #[.ref i1, .ref i2, .ref i3]) (hO : IsTupA s.heap TO #[a1, a2, a3]) (h1 : s.heap.IsListIter i1 l1 k) (g1 : s.heap.IsList l1 xs1) (h2 : s.heap.IsListIter i2 l2 k) (g2 : s.heap.IsList l2 xs2) (h3 : s.heap.IsListIter i3 l3 k) (g3 : s.heap.IsList l3 xs3) (e1 : xs1[k]? = none) (hQ : ∀ h', (∀ c o, c ∉ [z, TO, i1, i2, i3] → s.heap.get? c = some o → h'.get? c = some o) → Q none { s with heap := h' }) : wpAny (model prog w) A (pyNext (.ref z)) Q E s := by
  have ty : s.TypeIs (.ref z) "zip" := ⟨_, hz, rfl⟩
  unfold pyNext
  refine wpAny_bind (wpAny_attempt (wpAny_callSpecial?_slot (name := Str.ofString "__next__") ty F.slot_zip_next (wpAny_call_entry F.slot_zip_next ty F.entry_zip_next (end3 hh D d1 d2 d3 hz hI hO h1 g1 h2 g2 h3 g3 e1 fun h' e hk he => ?_) (F.args_zip_next_1 _))))
  obtain ⟨o, q1, q2⟩ := he
  exact wpAny_bind (wpAny_isInstance (T := "StopIteration") (b := true) ⟨o, q1, q2⟩ isSubtype_stop (wpAny_pure (hQ _ hk)))
theorem made3 {l1 l2 l3 : Addr} {xs1 xs2 xs3 : Array Value} :
    Meets (Builtin.«zip.__new__» ⟨[.type "zip", .ref l1, .ref l2, .ref l3], []⟩) (fun _ R s => s.heap.IsList l1 xs1 ∧ s.heap.IsList l2 xs2 ∧ s.heap.IsList l3 xs3 ∧ ∀ h', IsZip h' (s.heap.objs.size + 5) (s.heap.objs.size + 3) (s.heap.objs.size + 4) .none → IsTupA h' (s.heap.objs.size + 3) #[.ref s.heap.objs.size, .ref (s.heap.objs.size + 1), .ref (s.heap.objs.size + 2)] → IsTupA h' (s.heap.objs.size + 4) #[.none, .none, .none] → h'.IsListIter s.heap.objs.size l1 0 → h'.IsListIter (s.heap.objs.size + 1) l2 0 → h'.IsListIter (s.heap.objs.size + 2) l3 0 → (∀ c o, s.heap.get? c = some o → h'.get? c = some o) → R (.ok (.ret (.ref (s.heap.objs.size + 5)))) { s with heap := h' }) :=
  .of_wp fun prog w A R s hyp => by
    obtain ⟨hp, g, d, tk, os⟩ := s
    obtain ⟨q1, q2, q3, fin⟩ := hyp
    have hsub := sub_zip
    have r1 : Heap.IsList (Shared.heap ⟨hp, g, d, tk, os⟩) l1 xs1 := q1
    have r2 : Heap.IsList (Shared.heap ⟨hp.push { cls := .type "list_iterator", data := .fields #[.ref l1, .int 0 0] }, g, d, tk, os⟩) l2 xs2 := Heap.IsList.push (q2) _
    have r3 : Heap.IsList (Shared.heap ⟨(hp.push { cls := .type "list_iterator", data := .fields #[.ref l1, .int 0 0] }).push { cls := .type "list_iterator", data := .fields #[.ref l2, .int 0 0] }, g, d, tk, os⟩) l3 xs3 := Heap.IsList.push (Heap.IsList.push (q3) _) _
    wp_walk using wpAny_pyIter_list r1, wpAny_pyIter_list r2, wpAny_pyIter_list r3
    refine ⟨_, rfl, ?_⟩
    simp only [Heap.size_push]
    exact fin _ (at_top (by simp only [Heap.size_push]) (Heap.get?_push_size _ rfl)) (Heap.get?_push_of_some _ (Heap.get?_push_of_some _ (at_top (by simp only [Heap.size_push]) (Heap.get?_push_size _ rfl)))) (Heap.get?_push_of_some _ (at_top (by simp only [Heap.size_push]) (Heap.get?_push_size _ rfl))) ⟨_, (Heap.get?_push_of_some _ (Heap.get?_push_of_some _ (Heap.get?_push_of_some _ (Heap.get?_push_of_some _ (Heap.get?_push_of_some _ (at_top (by simp only [Heap.size_push]) (Heap.get?_push_size _ rfl))))))), rfl, rfl⟩ ⟨_, (Heap.get?_push_of_some _ (Heap.get?_push_of_some _ (Heap.get?_push_of_some _ (Heap.get?_push_of_some _ (at_top (by simp only [Heap.size_push]) (Heap.get?_push_size _ rfl)))))), rfl, rfl⟩ ⟨_, (Heap.get?_push_of_some _ (Heap.get?_push_of_some _ (Heap.get?_push_of_some _ (at_top (by simp only [Heap.size_push]) (Heap.get?_push_size _ rfl))))), rfl, rfl⟩ fun c o e => (Heap.get?_push_of_some _ (Heap.get?_push_of_some _ (Heap.get?_push_of_some _ (Heap.get?_push_of_some _ (Heap.get?_push_of_some _ (Heap.get?_push_of_some _ e))))))
theorem call3 {l1 l2 l3 : Addr} {xs1 xs2 xs3 : Array Value} {Q : Value → Shared → Prop} (g1 : s.heap.IsList l1 xs1) (g2 : s.heap.IsList l2 xs2) (g3 : s.heap.IsList l3 xs3)
    (h : ∀ h', IsZip h' (s.heap.objs.size + 5) (s.heap.objs.size + 3) (s.heap.objs.size + 4) .none → IsTupA h' (s.heap.objs.size + 3) #[.ref s.heap.objs.size, .ref (s.heap.objs.size + 1), .ref (s.heap.objs.size + 2)] → IsTupA h' (s.heap.objs.size + 4) #[.none, .none, .none] → h'.IsListIter s.heap.objs.size l1 0 → h'.IsListIter (s.heap.objs.size + 1) l2 0 → h'.IsListIter (s.heap.objs.size + 2) l3 0 → (∀ c o, s.heap.get? c = some o → h'.get? c = some o) → Q (.ref (s.heap.objs.size + 5)) { s with heap := h' }) :
    wpAny (model prog w) A (call (.type "zip") [.ref l1, .ref l2, .ref l3]) Q E s :=
  callType_new F.called_zip (by decide) (by kernel_rfl) (by kernel_rfl) (fun obj => by
    unfold argsOk
    rw [signature?_of (id := "object.__init__") (n := ['_', '_', 't', 'i', 'n', 'i', '_', '_']) (o := ['t', 'c', 'e', 'j', 'b', 'o']) (by kernel_rfl) F.owner_object]
    kernel_rfl) F.entry_zip_new (made3 (xs1 := xs1) (xs2 := xs2) (xs3 := xs3)) ⟨g1, g2, g3, fun h' b1 b2 b3 p1 p2 p3 b5 => ⟨⟨_, b1, rfl⟩, h h' b1 b2 b3 p1 p2 p3 b5⟩⟩
end
/-- the lists as they stand at each turn, the items in new tuples -/
def It3 (K : PySem.W.Frag) (l1 l2 l3 : Addr) : It :=
  ⟨fun i H => ∃ (ys1 ys2 ys3 : List V) (x1 x2 x3 : V), SqL K H l1 ys1 ∧ SqL K H l2 ys2 ∧ SqL K H l3 ys3 ∧ ys1[i]? = some x1 ∧ ys2[i]? = some x2 ∧ ys3[i]? = some x3,
    fun i H v H' => ∃ (T : Addr) (x1 x2 x3 : V), v = .ref T ∧ H T = none ∧ H' = upd H T (.tup [x1, x2, x3]) ∧ (∀ ys, SqL K H l1 ys → ys[i]? = some x1) ∧ (∀ ys, SqL K H l2 ys → ys[i]? = some x2) ∧ (∀ ys, SqL K H l3 ys → ys[i]? = some x3),
    fun i H => ∃ ys1 ys2 ys3 : List V, SqL K H l1 ys1 ∧ SqL K H l2 ys2 ∧ SqL K H l3 ys3 ∧ ys1.length ≤ i⟩
theorem turn3 {P : Program} {w : World} {K : PySem.W.Frag} {elts : List Expr} {kk : Nat} {tpos : Pos} {z TI TO i1 i2 i3 l1 l2 l3 : Addr} (D : [z, TI, TO, i1, i2, i3].Nodup) (d1 : l1 ∉ [z, TO, i1, i2, i3]) (d2 : l2 ∉ [z, TO, i1, i2, i3]) (d3 : l3 ∉ [z, TO, i1, i2, i3]) :
    Turn P w K (.Tuple elts kk tpos) (It3 K l1 l2 l3) [z, TI, TO, i1, i2, i3] z (fun i h => IsZip h z TI TO .none ∧ IsTupA h TI #[.ref i1, .ref i2, .ref i3] ∧ (∃ a1 a2 a3, IsTupA h TO #[a1, a2, a3]) ∧ h.IsListIter i1 l1 i ∧ h.IsListIter i2 l2 i ∧ h.IsListIter i3 l3 i) := by
  have nTI : TI ≠ z := fun q => by simp [q] at D
  have nTIO : TI ≠ TO := fun q => by simp [q] at D
  have nTO : TO ≠ z := fun q => by simp [q] at D
  have nTI1 : TI ≠ i1 := fun q => by simp [q] at D
  have nz1 : i1 ≠ z := fun q => by simp [q] at D
  have nTI2 : TI ≠ i2 := fun q => by simp [q] at D
  have nz2 : i2 ≠ z := fun q => by simp [q] at D
  have nTI3 : TI ≠ i3 := fun q => by simp [q] at D
  have nz3 : i3 ≠ z := fun q => by simp [q] at D
  refine ⟨by simp, fun i h st c hc => ?_, fun i h h' st k => ?_, ?_, ?_, fun A i s Q E st h => wpAny_pyIter_zip st.1 h⟩
  · obtain ⟨hz, hI, ⟨a1, a2, a3, hO⟩, h1, h2, h3⟩ := st
    have hc : c = z ∨ c = TI ∨ c = TO ∨ c = i1 ∨ c = i2 ∨ c = i3 := by simpa using hc
    rcases hc with rfl | rfl | rfl | rfl | rfl | rfl
    · exact ⟨_, hz, fun v q => nomatch q⟩
    · exact ⟨_, hI, fun v q => nomatch q⟩
    · exact ⟨_, hO, fun v q => nomatch q⟩
    · obtain ⟨o, e, _, dd⟩ := h1
      exact ⟨o, e, fun v q => by rw [dd] at q; cases q⟩
    · obtain ⟨o, e, _, dd⟩ := h2
      exact ⟨o, e, fun v q => by rw [dd] at q; cases q⟩
    · obtain ⟨o, e, _, dd⟩ := h3
      exact ⟨o, e, fun v q => by rw [dd] at q; cases q⟩
  · obtain ⟨hz, hI, ⟨a1, a2, a3, hO⟩, h1, h2, h3⟩ := st
    exact ⟨k z (by simp) _ hz, k TI (by simp) _ hI, ⟨a1, a2, a3, k TO (by simp) _ hO⟩, h1.at fun o q => k i1 (by simp) o q, h2.at fun o q => k i2 (by simp) o q, h3.at fun o q => k i3 (by simp) o q⟩
  · intro X hP hw hK hc i pins s σ H E I hf st hg
    subst hP hw hK
    obtain ⟨hz, hI, ⟨a1, a2, a3, hO⟩, h1, h2, h3⟩ := st
    obtain ⟨ys1, ys2, ys3, x1, x2, x3, q1, q2, q3, e1, e2, e3⟩ := hg
    obtain ⟨t1, r1, p1, _⟩ := I.list q1
    obtain ⟨u1, v1, w1⟩ := r1.get e1
    obtain ⟨t2, r2, p2, _⟩ := I.list q2
    obtain ⟨u2, v2, w2⟩ := r2.get e2
    obtain ⟨t3, r3, p3, _⟩ := I.list q3
    obtain ⟨u3, v3, w3⟩ := r3.get e3
    have zl : z < s.heap.objs.size := Heap.lt_size hz
    refine next3 D d1 d2 d3 hz hI hO h1 p1.isList h2 p2.isList h3 p3.isList (x1 := u1) (x2 := u2) (x3 := u3) (by simpa using v1) (by simpa using v2) (by simpa using v3) fun h' z1 O1 j1 j2 j3 T1 sz1 k1 => ?_
    refine ⟨_, rfl, wpAny_letOwnedTupleGo_zip (s := { s with heap := h' }) z1 fun h2 z2 sb => ?_⟩
    have T2 : IsTupA h2 s.heap.objs.size #[u1, u2, u3] := (sb.2 _ (Nat.ne_of_gt zl)).trans T1
    have new : ObjOk X.prog X.w (upd H s.heap.objs.size (.tup [x1, x2, x3])) h2 s.heap.objs.size (.tup [x1, x2, x3]) := ⟨by show 3 ≤ sizeLine; decide, [u1, u2, u3], (.cons w1 (.cons w2 (.cons w3 .nil))), ⟨_, T2, rfl, _, rfl⟩⟩
    have old : ∀ c o, c ∉ [z, TI, TO, i1, i2, i3] → s.heap.get? c = some o → h2.get? c = some o := fun c o m q => (sb.2 c (fun r => m (by simp [r]))).trans (k1 c o (fun r => m (by simp at r ⊢; rcases r with r | r | r | r | r <;> simp [r])) q)
    have I1 := I.turnedNew (t' := s.toks) (ch := [z, TI, TO, i1, i2, i3]) old hf (Nat.le_refl _) new
    refine ⟨.ref s.heap.objs.size, _, I1, rfl, ⟨_, x1, x2, x3, rfl, I.hok.fresh (Nat.le_refl _), rfl, fun l hl => by rw [I.list_inj hl q1]; exact e1, fun l hl => by rw [I.list_inj hl q2]; exact e2, fun l hl => by rw [I.list_inj hl q3]; exact e3⟩, ⟨z2, ?_, ⟨u1, u2, u3, (sb.2 _ nTO).trans O1⟩, j1.at fun o q => (sb.2 _ nz1).trans q, j2.at fun o q => (sb.2 _ nz2).trans q, j3.at fun o q => (sb.2 _ nz3).trans q⟩, fun c hcm => ?_⟩
    · exact (sb.2 _ nTI).trans (k1 _ _ (by simp [nTI, nTIO, nTI1, nTI2, nTI3]) hI)
    · have lt : c < s.heap.objs.size := by
        have hcm : c = z ∨ c = TI ∨ c = TO ∨ c = i1 ∨ c = i2 ∨ c = i3 := by simpa using hcm
        rcases hcm with rfl | rfl | rfl | rfl | rfl | rfl
        · exact zl
        · exact Heap.lt_size hI
        · exact Heap.lt_size hO
        · obtain ⟨_, q, _⟩ := h1
          exact Heap.lt_size q
        · obtain ⟨_, q, _⟩ := h2
          exact Heap.lt_size q
        · obtain ⟨_, q, _⟩ := h3
          exact Heap.lt_size q
      rw [upd_ne (Nat.ne_of_lt lt)]
      exact (hf c hcm).1
  · intro X hP hw hK hc i pins s σ H E I hf st hg
    subst hP hw hK
    obtain ⟨hz, hI, ⟨a1, a2, a3, hO⟩, h1, h2, h3⟩ := st
    obtain ⟨ys1, ys2, ys3, q1, q2, q3, le⟩ := hg
    obtain ⟨t1, r1, p1, _⟩ := I.list q1
    obtain ⟨t2, r2, p2, _⟩ := I.list q2
    obtain ⟨t3, r3, p3, _⟩ := I.list q3
    have ln := r1.length
    exact stop3 (I.ok.hd hc) D d1 d2 d3 hz hI hO h1 p1.isList h2 p2.isList h3 p3.isList (by simp; omega) fun h' hk => ⟨rfl, I.turnedL (t' := s.toks) (ch := [z, TI, TO, i1, i2, i3]) (fun c o m q => hk c o (fun r => m (by simp at r ⊢; rcases r with r | r | r | r | r <;> simp [r])) q) hf⟩
def iZip3 (K : PySem.W.Frag) (ta : TA) : TI := fun σ H R => ta σ H fun vs H1 => ∃ (l1 l2 l3 : Addr) (ys1 ys2 ys3 : List V), vs = [.ref l1, .ref l2, .ref l3] ∧ SqL K H1 l1 ys1 ∧ SqL K H1 l2 ys2 ∧ SqL K H1 l3 ys3 ∧ R (It3 K l1 l2 l3) H1
theorem pi_zip3 {X : Cx} {e1 e2 e3 : Expr} {ta : TA} {p pos tpos : Pos} {elts : List Expr} {kk : Nat} (hg : Gl X "zip") (hm : X.mg "zip" = none) (ha : PA X [e1, e2, e3] ta)
    (hs : starEach [e1, e2, e3] X.env = (false, eval e1 X.env) :: starEach [e2, e3] X.env := by rfl) (hpl : (backTo pos (starEach [e2, e3] X.env)).any (·.1) = false := by rfl) :
    PI X (.Tuple elts kk tpos) (.Call (.Name "zip" p) [e1, e2, e3] [] pos) (iZip3 X.K ta) := by
  constructor
  intro pins s σ H R I h
  refine Call_ (ld_blt I hg hm PyProof.Rows.boot_zip (PyProof.Rows.callWith_type1 (thn (ha.run pos pins s σ H _ I h) fun us s1 ⟨vs, H1, I1, r1, q1⟩ => ?_) hs hpl))
  obtain ⟨l1, l2, l3, ys1, ys2, ys3, rfl, q1, q2, q3, q⟩ := q1
  obtain ⟨c1, d1, rfl, b1, r2⟩ := vals_cons r1
  obtain ⟨c2, d2, rfl, b2, r3⟩ := vals_cons r2
  obtain ⟨c3, d3, rfl, b3, r4⟩ := vals_cons r3
  obtain rfl := vals_nil r4
  cases b1
  obtain ⟨t1, w1, p1, _⟩ := I1.list q1
  have m1 : l1 < s1.heap.objs.size := p1.lt
  cases b2
  obtain ⟨t2, w2, p2, _⟩ := I1.list q2
  have m2 : l2 < s1.heap.objs.size := p2.lt
  cases b3
  obtain ⟨t3, w3, p3, _⟩ := I1.list q3
  have m3 : l3 < s1.heap.objs.size := p3.lt
  refine call3 p1.isList p2.isList p3.isList fun h' hz hI hO h1 h2 h3 hk => wpAny_pyIter_zip hz ?_
  have I2 : Inv X pins σ H1 { s1 with heap := h' } := I1.kept (t' := s1.toks) hk
  have big : ∀ c ∈ [s1.heap.objs.size + 5, s1.heap.objs.size + 3, s1.heap.objs.size + 4, s1.heap.objs.size, s1.heap.objs.size + 1, s1.heap.objs.size + 2], s1.heap.objs.size ≤ c := fun c m => by
    simp only [List.mem_cons, List.not_mem_nil, or_false] at m
    omega
  have big2 : ∀ c ∈ [s1.heap.objs.size + 5, s1.heap.objs.size + 4, s1.heap.objs.size, s1.heap.objs.size + 1, s1.heap.objs.size + 2], s1.heap.objs.size ≤ c := fun c m => by
    simp only [List.mem_cons, List.not_mem_nil, or_false] at m
    omega
  refine ⟨s1.heap.objs.size + 5, [s1.heap.objs.size + 5, s1.heap.objs.size + 3, s1.heap.objs.size + 4, s1.heap.objs.size, s1.heap.objs.size + 1, s1.heap.objs.size + 2], _, _, H1, rfl, I2, turn3 (by simp; try omega) (fun q => absurd (big2 _ q) (Nat.not_le_of_lt m1)) (fun q => absurd (big2 _ q) (Nat.not_le_of_lt m2)) (fun q => absurd (big2 _ q) (Nat.not_le_of_lt m3)), ⟨hz, hI, ⟨_, _, _, hO⟩, h1, h2, h3⟩, fun c m => I1.fpOk (big c m) (I1.hok.fresh (big c m)), q⟩
section
variable {prog : Program} {w : World} {A : Around} {E : Value → Shared → Prop} {s : Shared}
theorem item4 {z TI TO i1 i2 i3 i4 l1 l2 l3 l4 : Addr} {k : Nat} {xs1 xs2 xs3 xs4 : Array Value} {a1 a2 a3 a4 : Value} {x1 x2 x3 x4 : Value} {Q : Value → Shared → Prop} (D : [z, TI, TO, i1, i2, i3, i4].Nodup) (d1 : l1 ∉ [z, TO, i1, i2, i3, i4]) (d2 : l2 ∉ [z, TO, i1, i2, i3, i4]) (d3 : l3 ∉ [z, TO, i1, i2, i3, i4]) (d4 : l4 ∉ [z, TO, i1, i2, i3, i4]) (hz : IsZip s.heap z TI TO .none) (hI : IsTupA s.heap TI #[.ref i1, .ref i2, .ref i3, .ref i4]) (hO : IsTupA s.heap TO #[a1, a2, a3, a4]) (h1 : s.heap.IsListIter i1 l1 k) (g1 : s.heap.IsList l1 xs1) (h2 : s.heap.IsListIter i2 l2 k) (g2 : s.heap.IsList l2 xs2) (h3 : s.heap.IsListIter i3 l3 k) (g3 : s.heap.IsList l3 xs3) (h4 : s.heap.IsListIter i4 l4 k) (g4 : s.heap.IsList l4 xs4) (e1 : xs1[k]? = some x1) (e2 : xs2[k]? = some x2) (e3 : xs3[k]? = some x3) (e4 : xs4[k]? = some x4)
    (hQ : ∀ h', IsZip h' z TI TO (rawInt s.heap.objs.size) → IsTupA h' TO #[x1, x2, x3, x4] → h'.IsListIter i1 l1 (k + 1) → h'.IsListIter i2 l2 (k + 1) → h'.IsListIter i3 l3 (k + 1) → h'.IsListIter i4 l4 (k + 1) → IsTupA h' s.heap.objs.size #[x1, x2, x3, x4] → h'.objs.size = s.heap.objs.size + 1 → (∀ c o, c ∉ [z, TO, i1, i2, i3, i4] → s.heap.get? c = some o → h'.get? c = some o) → Q (.ref s.heap.objs.size) { s with heap := h' }) :
    wpAny (model prog w) A (Builtin.«zip.__next__» ⟨[.ref z], []⟩) (fun fin s' => ∃ v, fin = .done (.ret v) ∧ Q v s') E s := by
  have nTz : TO ≠ z := fun q => by simp [q] at D
  have nz1 : i1 ≠ z := fun q => by simp [q] at D
  have nT1 : i1 ≠ TO := fun q => by simp [q] at D
  have n12 : i1 ≠ i2 := fun q => by simp [q] at D
  have n13 : i1 ≠ i3 := fun q => by simp [q] at D
  have n14 : i1 ≠ i4 := fun q => by simp [q] at D
  have lz1 : l1 ≠ z := fun q => d1 (by simp [q])
  have lT1 : l1 ≠ TO := fun q => d1 (by simp [q])
  have ll11 : l1 ≠ i1 := fun q => d1 (by simp [q])
  have ll12 : l1 ≠ i2 := fun q => d1 (by simp [q])
  have ll13 : l1 ≠ i3 := fun q => d1 (by simp [q])
  have ll14 : l1 ≠ i4 := fun q => d1 (by simp [q])
  have nz2 : i2 ≠ z := fun q => by simp [q] at D
  have nT2 : i2 ≠ TO := fun q => by simp [q] at D
  have n23 : i2 ≠ i3 := fun q => by simp [q] at D
  have n24 : i2 ≠ i4 := fun q => by simp [q] at D
  have lz2 : l2 ≠ z := fun q => d2 (by simp [q])
  have lT2 : l2 ≠ TO := fun q => d2 (by simp [q])
  have ll21 : l2 ≠ i1 := fun q => d2 (by simp [q])
  have ll22 : l2 ≠ i2 := fun q => d2 (by simp [q])
  have ll23 : l2 ≠ i3 := fun q => d2 (by simp [q])
  have ll24 : l2 ≠ i4 := fun q => d2 (by simp [q])
  have nz3 : i3 ≠ z := fun q => by simp [q] at D
  have nT3 : i3 ≠ TO := fun q => by simp [q] at D
  have n34 : i3 ≠ i4 := fun q => by simp [q] at D
  have lz3 : l3 ≠ z := fun q => d3 (by simp [q])
  have lT3 : l3 ≠ TO := fun q => d3 (by simp [q])
  have ll31 : l3 ≠ i1 := fun q => d3 (by simp [q])
  have ll32 : l3 ≠ i2 := fun q => d3 (by simp [q])
  have ll33 : l3 ≠ i3 := fun q => d3 (by simp [q])
  have ll34 : l3 ≠ i4 := fun q => d3 (by simp [q])
  have nz4 : i4 ≠ z := fun q => by simp [q] at D
  have nT4 : i4 ≠ TO := fun q => by simp [q] at D
  have lz4 : l4 ≠ z := fun q => d4 (by simp [q])
  have lT4 : l4 ≠ TO := fun q => d4 (by simp [q])
  have ll41 : l4 ≠ i1 := fun q => d4 (by simp [q])
  have ll42 : l4 ≠ i2 := fun q => d4 (by simp [q])
  have ll43 : l4 ≠ i3 := fun q => d4 (by simp [q])
  have ll44 : l4 ≠ i4 := fun q => d4 (by simp [q])
  show wpAny _ _ (field (.ref z) 2 >>= _) _ _ s
  refine wpAny_bind (wpAny_field hz rfl (x := .bool false) rfl ?_)
  show wpAny _ _ (field (.ref z) 3 >>= _) _ _ s
  refine wpAny_bind (wpAny_field hz rfl (x := .ref TI) rfl (wpAny_bind (wpAny_seqItems hI rfl ?_)))
  show wpAny _ _ (Builtin.SmallTypes.ownedTupleIsFree (.ref z) >>= _) _ _ s
  unfold Builtin.SmallTypes.ownedTupleIsFree
  refine wpAny_bind (wpAny_bind (wpAny_field hz rfl (x := .none) rfl (wpAny_pure ?_)))
  simp only [if_true]
  refine wpAny_bind (wpAny_rule (wpAny_bind (wpAny_field hz rfl (x := .ref TO) rfl (wpAny_bind (wpAny_setField_rec hz (by simp) fun b0 z0 c0 => ?_)))))
  have z0 : IsZip b0 z TI TO .ellipsis := z0
  have K0 : ∀ c o, c ∉ [z, TO, i1, i2, i3, i4] → s.heap.get? c = some o → b0.get? c = some o := fun c o m e => (c0.2 c (fun q => m (by simp [q]))).trans e
  have S0 := c0.1
  have O0 : IsTupA b0 TO #[a1, a2, a3, a4] := (c0.2 TO nTz).trans hO
  have I0_1 : b0.IsListIter i1 l1 k := h1.at fun o e => (c0.2 _ nz1).trans e
  have L0_1 : b0.IsList l1 xs1 := g1.at fun o e => (c0.2 _ lz1).trans e
  have I0_2 : b0.IsListIter i2 l2 k := h2.at fun o e => (c0.2 _ nz2).trans e
  have L0_2 : b0.IsList l2 xs2 := g2.at fun o e => (c0.2 _ lz2).trans e
  have I0_3 : b0.IsListIter i3 l3 k := h3.at fun o e => (c0.2 _ nz3).trans e
  have L0_3 : b0.IsList l3 xs3 := g3.at fun o e => (c0.2 _ lz3).trans e
  have I0_4 : b0.IsListIter i4 l4 k := h4.at fun o e => (c0.2 _ nz4).trans e
  have L0_4 : b0.IsList l4 xs4 := g4.at fun o e => (c0.2 _ lz4).trans e
  refine wpAny_bind ?_
  simp only [List.zipIdx_cons, List.zipIdx_nil, List.forIn_cons, List.forIn_nil]
  refine wpAny_bind (wpAny_bind (wpAny_onRaise ?_))
  show wpAny _ _ (Builtin.SmallTypes.nextOf (.ref i1) >>= _) _ _ _
  refine wpAny_bind (wpAny_nextOf_list_item (s := { s with heap := b0 }) I0_1 L0_1 e1 fun m1 J1 c1 => wpAny_pure ?_)
  have P1 : IsTupA m1 TO #[a1, a2, a3, a4] := (c1.2 TO nT1.symm).trans O0
  refine wpAny_bind (wpAny_seqItems (s := { s with heap := m1 }) P1 rfl (wpAny_bind (set_tup (s := { s with heap := m1 }) P1 (by show 4 ≤ sizeLine; decide) fun b1 O1 u1 S1' => wpAny_bind (wpAny_letGo (wpAny_pure ?_)))))
  have O1 : IsTupA b1 TO #[x1, a2, a3, a4] := O1
  have z1 : IsZip b1 z TI TO .ellipsis := u1 _ _ nTz.symm ((c1.2 z nz1.symm).trans z0)
  have K1 : ∀ c o, c ∉ [z, TO, i1, i2, i3, i4] → s.heap.get? c = some o → b1.get? c = some o := fun c o m e => u1 c o (fun q => m (by simp [q])) ((c1.2 c (fun q => m (by simp [q]))).trans (K0 c o m e))
  have S1 : b1.objs.size = s.heap.objs.size := S1'.trans (c1.1.trans S0)
  have I1_1 : b1.IsListIter i1 l1 (k + 1) := J1.at fun o e => u1 _ o nT1 e
  have L1_1 : b1.IsList l1 xs1 := L0_1.at fun o e => u1 _ o lT1 ((c1.2 _ ll11).trans e)
  have I1_2 : b1.IsListIter i2 l2 k := I0_2.at fun o e => u1 _ o nT2 ((c1.2 _ n12.symm).trans e)
  have L1_2 : b1.IsList l2 xs2 := L0_2.at fun o e => u1 _ o lT2 ((c1.2 _ ll21).trans e)
  have I1_3 : b1.IsListIter i3 l3 k := I0_3.at fun o e => u1 _ o nT3 ((c1.2 _ n13.symm).trans e)
  have L1_3 : b1.IsList l3 xs3 := L0_3.at fun o e => u1 _ o lT3 ((c1.2 _ ll31).trans e)
  have I1_4 : b1.IsListIter i4 l4 k := I0_4.at fun o e => u1 _ o nT4 ((c1.2 _ n14.symm).trans e)
  have L1_4 : b1.IsList l4 xs4 := L0_4.at fun o e => u1 _ o lT4 ((c1.2 _ ll41).trans e)
  refine wpAny_bind (wpAny_bind (wpAny_onRaise ?_))
  show wpAny _ _ (Builtin.SmallTypes.nextOf (.ref i2) >>= _) _ _ _
  refine wpAny_bind (wpAny_nextOf_list_item (s := { s with heap := b1 }) I1_2 L1_2 e2 fun m2 J2 c2 => wpAny_pure ?_)
  have P2 : IsTupA m2 TO #[x1, a2, a3, a4] := (c2.2 TO nT2.symm).trans O1
  refine wpAny_bind (wpAny_seqItems (s := { s with heap := m2 }) P2 rfl (wpAny_bind (set_tup (s := { s with heap := m2 }) P2 (by show 4 ≤ sizeLine; decide) fun b2 O2 u2 S2' => wpAny_bind (wpAny_letGo (wpAny_pure ?_)))))
  have O2 : IsTupA b2 TO #[x1, x2, a3, a4] := O2
  have z2 : IsZip b2 z TI TO .ellipsis := u2 _ _ nTz.symm ((c2.2 z nz2.symm).trans z1)
  have K2 : ∀ c o, c ∉ [z, TO, i1, i2, i3, i4] → s.heap.get? c = some o → b2.get? c = some o := fun c o m e => u2 c o (fun q => m (by simp [q])) ((c2.2 c (fun q => m (by simp [q]))).trans (K1 c o m e))
  have S2 : b2.objs.size = s.heap.objs.size := S2'.trans (c2.1.trans S1)
  have I2_1 : b2.IsListIter i1 l1 (k + 1) := I1_1.at fun o e => u2 _ o nT1 ((c2.2 _ n12).trans e)
  have L2_1 : b2.IsList l1 xs1 := L1_1.at fun o e => u2 _ o lT1 ((c2.2 _ ll12).trans e)
  have I2_2 : b2.IsListIter i2 l2 (k + 1) := J2.at fun o e => u2 _ o nT2 e
  have L2_2 : b2.IsList l2 xs2 := L1_2.at fun o e => u2 _ o lT2 ((c2.2 _ ll22).trans e)
  have I2_3 : b2.IsListIter i3 l3 k := I1_3.at fun o e => u2 _ o nT3 ((c2.2 _ n23.symm).trans e)
  have L2_3 : b2.IsList l3 xs3 := L1_3.at fun o e => u2 _ o lT3 ((c2.2 _ ll32).trans e)
  have I2_4 : b2.IsListIter i4 l4 k := I1_4.at fun o e => u2 _ o nT4 ((c2.2 _ n24.symm).trans e)
  have L2_4 : b2.IsList l4 xs4 := L1_4.at fun o e => u2 _ o lT4 ((c2.2 _ ll42).trans e)
  refine wpAny_bind (wpAny_bind (wpAny_onRaise ?_))
  show wpAny _ _ (Builtin.SmallTypes.nextOf (.ref i3) >>= _) _ _ _
  refine wpAny_bind (wpAny_nextOf_list_item (s := { s with heap := b2 }) I2_3 L2_3 e3 fun m3 J3 c3 => wpAny_pure ?_)
  have P3 : IsTupA m3 TO #[x1, x2, a3, a4] := (c3.2 TO nT3.symm).trans O2
  refine wpAny_bind (wpAny_seqItems (s := { s with heap := m3 }) P3 rfl (wpAny_bind (set_tup (s := { s with heap := m3 }) P3 (by show 4 ≤ sizeLine; decide) fun b3 O3 u3 S3' => wpAny_bind (wpAny_letGo (wpAny_pure ?_)))))
  have O3 : IsTupA b3 TO #[x1, x2, x3, a4] := O3
  have z3 : IsZip b3 z TI TO .ellipsis := u3 _ _ nTz.symm ((c3.2 z nz3.symm).trans z2)
  have K3 : ∀ c o, c ∉ [z, TO, i1, i2, i3, i4] → s.heap.get? c = some o → b3.get? c = some o := fun c o m e => u3 c o (fun q => m (by simp [q])) ((c3.2 c (fun q => m (by simp [q]))).trans (K2 c o m e))
  have S3 : b3.objs.size = s.heap.objs.size := S3'.trans (c3.1.trans S2)
  have I3_1 : b3.IsListIter i1 l1 (k + 1) := I2_1.at fun o e => u3 _ o nT1 ((c3.2 _ n13).trans e)
  have L3_1 : b3.IsList l1 xs1 := L2_1.at fun o e => u3 _ o lT1 ((c3.2 _ ll13).trans e)
  have I3_2 : b3.IsListIter i2 l2 (k + 1) := I2_2.at fun o e => u3 _ o nT2 ((c3.2 _ n23).trans e)
  have L3_2 : b3.IsList l2 xs2 := L2_2.at fun o e => u3 _ o lT2 ((c3.2 _ ll23).trans e)
  have I3_3 : b3.IsListIter i3 l3 (k + 1) := J3.at fun o e => u3 _ o nT3 e
  have L3_3 : b3.IsList l3 xs3 := L2_3.at fun o e => u3 _ o lT3 ((c3.2 _ ll33).trans e)
  have I3_4 : b3.IsListIter i4 l4 k := I2_4.at fun o e => u3 _ o nT4 ((c3.2 _ n34.symm).trans e)
  have L3_4 : b3.IsList l4 xs4 := L2_4.at fun o e => u3 _ o lT4 ((c3.2 _ ll43).trans e)
  refine wpAny_bind (wpAny_bind (wpAny_onRaise ?_))
  show wpAny _ _ (Builtin.SmallTypes.nextOf (.ref i4) >>= _) _ _ _
  refine wpAny_bind (wpAny_nextOf_list_item (s := { s with heap := b3 }) I3_4 L3_4 e4 fun m4 J4 c4 => wpAny_pure ?_)
  have P4 : IsTupA m4 TO #[x1, x2, x3, a4] := (c4.2 TO nT4.symm).trans O3
  refine wpAny_bind (wpAny_seqItems (s := { s with heap := m4 }) P4 rfl (wpAny_bind (set_tup (s := { s with heap := m4 }) P4 (by show 4 ≤ sizeLine; decide) fun b4 O4 u4 S4' => wpAny_bind (wpAny_letGo (wpAny_pure (wpAny_pure ?_))))))
  have O4 : IsTupA b4 TO #[x1, x2, x3, x4] := O4
  have z4 : IsZip b4 z TI TO .ellipsis := u4 _ _ nTz.symm ((c4.2 z nz4.symm).trans z3)
  have K4 : ∀ c o, c ∉ [z, TO, i1, i2, i3, i4] → s.heap.get? c = some o → b4.get? c = some o := fun c o m e => u4 c o (fun q => m (by simp [q])) ((c4.2 c (fun q => m (by simp [q]))).trans (K3 c o m e))
  have S4 : b4.objs.size = s.heap.objs.size := S4'.trans (c4.1.trans S3)
  have I4_1 : b4.IsListIter i1 l1 (k + 1) := I3_1.at fun o e => u4 _ o nT1 ((c4.2 _ n14).trans e)
  have L4_1 : b4.IsList l1 xs1 := L3_1.at fun o e => u4 _ o lT1 ((c4.2 _ ll14).trans e)
  have I4_2 : b4.IsListIter i2 l2 (k + 1) := I3_2.at fun o e => u4 _ o nT2 ((c4.2 _ n24).trans e)
  have L4_2 : b4.IsList l2 xs2 := L3_2.at fun o e => u4 _ o lT2 ((c4.2 _ ll24).trans e)
  have I4_3 : b4.IsListIter i3 l3 (k + 1) := I3_3.at fun o e => u4 _ o nT3 ((c4.2 _ n34).trans e)
  have L4_3 : b4.IsList l3 xs3 := L3_3.at fun o e => u4 _ o lT3 ((c4.2 _ ll34).trans e)
  have I4_4 : b4.IsListIter i4 l4 (k + 1) := J4.at fun o e => u4 _ o nT4 e
  have L4_4 : b4.IsList l4 xs4 := L3_4.at fun o e => u4 _ o lT4 ((c4.2 _ ll44).trans e)
  refine wpAny_bind (wpAny_seqItems (s := { s with heap := b4 }) O4 rfl (wpAny_bind (wpAny_newTuple ?_)))
  show wpAny _ _ (Builtin.SmallTypes.ownedTupleHandOut (.ref z) (.ref b4.objs.size) >>= _) _ _ _
  unfold Builtin.SmallTypes.ownedTupleHandOut
  have zlt : z < b4.objs.size := Heap.lt_size z4
  have zP : IsZip (b4.push { cls := .type "tuple", data := .seq #[x1, x2, x3, x4] }) z TI TO .ellipsis := Heap.get?_push_of_some _ z4
  refine wpAny_bind (wpAny_bind (wpAny_setField_rec (s := { s with heap := b4.push { cls := .type "tuple", data := .seq #[x1, x2, x3, x4] } }) zP (by simp) fun v1 y1 t1 => ?_))
  have y1 : IsZip v1 z TI TO (rawInt b4.objs.size) := y1
  refine wpAny_setField_rec (s := { s with heap := v1 }) y1 (by simp) fun v2 y2 t2 => ?_
  have y2 : IsZip v2 z TI TO (rawInt b4.objs.size) := y2
  have go : ∀ c o, c ≠ z → b4.get? c = some o → v2.get? c = some o := fun c o m e => (t2.2 c m).trans ((t1.2 c m).trans (Heap.get?_push_of_some _ e))
  have nw : IsTupA v2 b4.objs.size #[x1, x2, x3, x4] := (t2.2 _ (Nat.ne_of_gt zlt)).trans ((t1.2 _ (Nat.ne_of_gt zlt)).trans (Heap.get?_push_size _ rfl))
  have sz : v2.objs.size = b4.objs.size + 1 := t2.1.trans (t1.1.trans (Heap.size_push ..))
  rw [S4] at y2 nw sz
  refine wpAny_pure ⟨_, rfl, ?_⟩
  show Q (.ref b4.objs.size) _
  rw [S4]
  exact hQ v2 y2 (go _ _ nTz O4) (I4_1.at fun o e => go _ o nz1 e) (I4_2.at fun o e => go _ o nz2 e) (I4_3.at fun o e => go _ o nz3 e) (I4_4.at fun o e => go _ o nz4 e) nw sz fun c o m e => go c o (fun q => m (by simp [q])) (K4 c o m e)
theorem end4 {z TI TO i1 i2 i3 i4 l1 l2 l3 l4 : Addr} {k : Nat} {xs1 xs2 xs3 xs4 : Array Value} {a1 a2 a3 a4 : Value} {Q : Fin → Shared → Prop} (hh : A.handled = none) (D : [z, TI, TO, i1, i2, i3, i4].Nodup) (d1 : l1 ∉ [z, TO, i1, i2, i3, i4]) (d2 : l2 ∉ [z, TO, i1, i2, i3, i4]) (d3 : l3 ∉ [z, TO, i1, i2, i3, i4]) (d4 : l4 ∉ [z, TO, i1, i2, i3, i4]) (hz : IsZip s.heap z TI TO .none) (hI : IsTupA s.heap TI #[.ref i1, .ref i2, .ref i3, .ref i4]) (hO : IsTupA s.heap TO #[a1, a2, a3, a4]) (h1 : s.heap.IsListIter i1 l1 k) (g1 : s.heap.IsList l1 xs1) (h2 : s.heap.IsListIter i2 l2 k) (g2 : s.heap.IsList l2 xs2) (h3 : s.heap.IsListIter i3 l3 k) (g3 : s.heap.IsList l3 xs3) (h4 : s.heap.IsListIter i4 l4 k) (g4 : s.heap.IsList l4 xs4) (e1 : xs1[k]? = none)
    (hE : ∀ h' e, (∀ c o, c ∉ [z, TO, i1, i2, i3, i4] → s.heap.get? c = some o → h'.get? c = some o) → (∃ o, h'.get? e = some o ∧ o.cls = .type "StopIteration") → E (.ref e) { s with heap := h' }) :
    wpAny (model prog w) A (Builtin.«zip.__next__» ⟨[.ref z], []⟩) Q E s := by
  have nz1 : i1 ≠ z := fun q => by simp [q] at D
  have lz1 : l1 ≠ z := fun q => d1 (by simp [q])
  show wpAny _ _ (field (.ref z) 2 >>= _) _ _ s
  refine wpAny_bind (wpAny_field hz rfl (x := .bool false) rfl ?_)
  show wpAny _ _ (field (.ref z) 3 >>= _) _ _ s
  refine wpAny_bind (wpAny_field hz rfl (x := .ref TI) rfl (wpAny_bind (wpAny_seqItems hI rfl ?_)))
  show wpAny _ _ (Builtin.SmallTypes.ownedTupleIsFree (.ref z) >>= _) _ _ s
  unfold Builtin.SmallTypes.ownedTupleIsFree
  refine wpAny_bind (wpAny_bind (wpAny_field hz rfl (x := .none) rfl (wpAny_pure ?_)))
  simp only [if_true]
  refine wpAny_bind (wpAny_rule (wpAny_bind (wpAny_field hz rfl (x := .ref TO) rfl (wpAny_bind (wpAny_setField_rec hz (by simp) fun b0 z0 c0 => ?_)))))
  have z0 : IsZip b0 z TI TO .ellipsis := z0
  refine wpAny_bind ?_
  simp only [List.zipIdx_cons, List.zipIdx_nil, List.forIn_cons, List.forIn_nil]
  refine wpAny_bind (wpAny_bind (wpAny_onRaise ?_))
  show wpAny _ _ (Builtin.SmallTypes.nextOf (.ref i1) >>= _) _ _ _
  refine wpAny_bind (wpAny_nextOf_list_end (s := { s with heap := b0 }) hh (h1.at fun o e => (c0.2 _ nz1).trans e) (g1.at fun o e => (c0.2 _ lz1).trans e) e1 fun b2 e c2 he => ?_)
  obtain ⟨oe, he1, he2⟩ := he
  have zz : IsZip b2 z TI TO .ellipsis := c2 _ _ nz1.symm z0
  have ne : e ≠ z := fun q => by rw [q, zz] at he1; cases he1; simp at he2
  refine wpAny_setField_rec (s := { s with heap := b2 }) zz (by simp) fun b3 _ c3 => hE b3 e (fun c o m q => (c3.2 c (fun r => m (by simp [r]))).trans (c2 _ _ (fun r => m (by simp [r])) ((c0.2 c (fun r => m (by simp [r]))).trans q))) ⟨oe, (c3.2 _ ne).trans he1, he2⟩
theorem next4 {z TI TO i1 i2 i3 i4 l1 l2 l3 l4 : Addr} {k : Nat} {xs1 xs2 xs3 xs4 : Array Value} {a1 a2 a3 a4 : Value} {x1 x2 x3 x4 : Value} {Q : Option Value → Shared → Prop} (D : [z, TI, TO, i1, i2, i3, i4].Nodup) (d1 : l1 ∉ [z, TO, i1, i2, i3, i4]) (d2 : l2 ∉ [z, TO, i1, i2, i3, i4]) (d3 : l3 ∉ [z, TO, i1, i2, i3, i4]) (d4 : l4 ∉ [z, TO, i1, i2, i3, i4]) (hz : IsZip s.heap z TI TO .none) (hI : IsTupA s.heap TI #[.ref i1, .ref i2, .ref i3, .ref i4]) (hO : IsTupA s.heap TO #[a1, a2, a3, a4]) (h1 : s.heap.IsListIter i1 l1 k) (g1 : s.heap.IsList l1 xs1) (h2 : s.heap.IsListIter i2 l2 k) (g2 : s.heap.IsList l2 xs2) (h3 : s.heap.IsListIter i3 l3 k) (g3 : s.heap.IsList l3 xs3) (h4 : s.heap.IsListIter i4 l4 k) (g4 : s.heap.IsList l4 xs4) (e1 : xs1[k]? = some x1) (e2 : xs2[k]? = some x2) (e3 : xs3[k]? = some x3) (e4 : xs4[k]? = some x4)
    (hQ : ∀ h', IsZip h' z TI TO (rawInt s.heap.objs.size) → IsTupA h' TO #[x1, x2, x3, x4] → h'.IsListIter i1 l1 (k + 1) → h'.IsListIter i2 l2 (k + 1) → h'.IsListIter i3 l3 (k + 1) → h'.IsListIter i4 l4 (k + 1) → IsTupA h' s.heap.objs.size #[x1, x2, x3, x4] → h'.objs.size = s.heap.objs.size + 1 → (∀ c o, c ∉ [z, TO, i1, i2, i3, i4] → s.heap.get? c = some o → h'.get? c = some o) → Q (some (.ref s.heap.objs.size)) { s with heap := h' }) :
    wpAny (model prog w) A (pyNext (.ref z)) Q E s := by
  have ty : s.TypeIs (.ref z) "zip" := ⟨_, hz, rfl⟩
  unfold pyNext
  exact wpAny_bind (wpAny_attempt (wpAny_callSpecial?_slot (name := Str.ofString "__next__") ty F.slot_zip_next (wpAny_call_entry F.slot_zip_next ty F.entry_zip_next (item4 D d1 d2 d3 d4 hz hI hO h1 g1 h2 g2 h3 g3 h4 g4 e1 e2 e3 e4 fun h' b1 b2 p1 p2 p3 p4 b3 b4 b5 => wpAny_pure (hQ h' b1 b2 p1 p2 p3 p4 b3 b4 b5)) (F.args_zip_next_1 _))))
theorem stop4 {z TI TO i1 i2 i3 i4 l1 l2 l3 l4 : Addr} {k : Nat} {xs1 xs2 xs3 xs4 : Array Value} {a1 a2 a3 a4 : Value} {Q : Option Value → Shared → Prop} (hh : A.handled = none) (D : [z, TI, TO, i1, i2, i3, i4].Nodup) (d1 : l1 ∉ [z, TO, i1, i2, i3, i4]) (d2 : l2 ∉ [z, TO, i1, i2, i3, i4]) (d3 : l3 ∉ [z, TO, i1, i2, i3, i4]) (d4 : l4 ∉ [z, TO, i1, i2, i3, i4]) (hz : IsZip s.heap z TI TO .none) (hI : IsTupA s.heap TI #[.ref i1, .ref i2, .ref i3, .ref i4]) (hO : IsTupA s.heap TO #[a1, a2, a3, a4]) (h1 : s.heap.IsListIter i1 l1 k) (g1 : s.heap.IsList l1 xs1) (h2 : s.heap.IsListIter i2 l2 k) (g2 : s.heap.IsList l2 xs2) (h3 : s.heap.IsListIter i3 l3 k) (g3 : s.heap.IsList l3 xs3) (h4 : s.heap.IsListIter i4 l4 k) (g4 : s.heap.IsList l4 xs4) (e1 : xs1[k]? = none) (hQ : ∀ h', (∀ c o, c ∉ [z, TO, i1, i2, i3, i4] → s.heap.get? c = some o → h'.get? c = some o) → Q none { s with heap := h' }) : wpAny (model prog w) A (pyNext (.ref z)) Q E s := by
  have ty : s.TypeIs (.ref z) "zip" := ⟨_, hz, rfl⟩
  unfold pyNext
  refine wpAny_bind (wpAny_attempt (wpAny_callSpecial?_slot (name := Str.ofString "__next__") ty F.slot_zip_next (wpAny_call_entry F.slot_zip_next ty F.entry_zip_next (end4 hh D d1 d2 d3 d4 hz hI hO h1 g1 h2 g2 h3 g3 h4 g4 e1 fun h' e hk he => ?_) (F.args_zip_next_1 _))))
  obtain ⟨o, q1, q2⟩ := he
  exact wpAny_bind (wpAny_isInstance (T := "StopIteration") (b := true) ⟨o, q1, q2⟩ isSubtype_stop (wpAny_pure (hQ _ hk)))
theorem made4 {l1 l2 l3 l4 : Addr} {xs1 xs2 xs3 xs4 : Array Value} :
    Meets (Builtin.«zip.__new__» ⟨[.type "zip", .ref l1, .ref l2, .ref l3, .ref l4], []⟩) (fun _ R s => s.heap.IsList l1 xs1 ∧ s.heap.IsList l2 xs2 ∧ s.heap.IsList l3 xs3 ∧ s.heap.IsList l4 xs4 ∧ ∀ h', IsZip h' (s.heap.objs.size + 6) (s.heap.objs.size + 4) (s.heap.objs.size + 5) .none → IsTupA h' (s.heap.objs.size + 4) #[.ref s.heap.objs.size, .ref (s.heap.objs.size + 1), .ref (s.heap.objs.size + 2), .ref (s.heap.objs.size + 3)] → IsTupA h' (s.heap.objs.size + 5) #[.none, .none, .none, .none] → h'.IsListIter s.heap.objs.size l1 0 → h'.IsListIter (s.heap.objs.size + 1) l2 0 → h'.IsListIter (s.heap.objs.size + 2) l3 0 → h'.IsListIter (s.heap.objs.size + 3) l4 0 → (∀ c o, s.heap.get? c = some o → h'.get? c = some o) → R (.ok (.ret (.ref (s.heap.objs.size + 6)))) { s with heap := h' }) :=
  .of_wp fun prog w A R s hyp => by
    obtain ⟨hp, g, d, tk, os⟩ := s
    obtain ⟨q1, q2, q3, q4, fin⟩ := hyp
    have hsub := sub_zip
    have r1 : Heap.IsList (Shared.heap ⟨hp, g, d, tk, os⟩) l1 xs1 := q1
    have r2 : Heap.IsList (Shared.heap ⟨hp.push { cls := .type "list_iterator", data := .fields #[.ref l1, .int 0 0] }, g, d, tk, os⟩) l2 xs2 := Heap.IsList.push (q2) _
    have r3 : Heap.IsList (Shared.heap ⟨(hp.push { cls := .type "list_iterator", data := .fields #[.ref l1, .int 0 0] }).push { cls := .type "list_iterator", data := .fields #[.ref l2, .int 0 0] }, g, d, tk, os⟩) l3 xs3 := Heap.IsList.push (Heap.IsList.push (q3) _) _
    have r4 : Heap.IsList (Shared.heap ⟨((hp.push { cls := .type "list_iterator", data := .fields #[.ref l1, .int 0 0] }).push { cls := .type "list_iterator", data := .fields #[.ref l2, .int 0 0] }).push { cls := .type "list_iterator", data := .fields #[.ref l3, .int 0 0] }, g, d, tk, os⟩) l4 xs4 := Heap.IsList.push (Heap.IsList.push (Heap.IsList.push (q4) _) _) _
    wp_walk using wpAny_pyIter_list r1, wpAny_pyIter_list r2, wpAny_pyIter_list r3, wpAny_pyIter_list r4
    refine ⟨_, rfl, ?_⟩
    simp only [Heap.size_push]
    exact fin _ (at_top (by simp only [Heap.size_push]) (Heap.get?_push_size _ rfl)) (Heap.get?_push_of_some _ (Heap.get?_push_of_some _ (at_top (by simp only [Heap.size_push]) (Heap.get?_push_size _ rfl)))) (Heap.get?_push_of_some _ (at_top (by simp only [Heap.size_push]) (Heap.get?_push_size _ rfl))) ⟨_, (Heap.get?_push_of_some _ (Heap.get?_push_of_some _ (Heap.get?_push_of_some _ (Heap.get?_push_of_some _ (Heap.get?_push_of_some _ (Heap.get?_push_of_some _ (at_top (by simp only [Heap.size_push]) (Heap.get?_push_size _ rfl)))))))), rfl, rfl⟩ ⟨_, (Heap.get?_push_of_some _ (Heap.get?_push_of_some _ (Heap.get?_push_of_some _ (Heap.get?_push_of_some _ (Heap.get?_push_of_some _ (at_top (by simp only [Heap.size_push]) (Heap.get?_push_size _ rfl))))))), rfl, rfl⟩ ⟨_, (Heap.get?_push_of_some _ (Heap.get?_push_of_some _ (Heap.get?_push_of_some _ (Heap.get?_push_of_some _ (at_top (by simp only [Heap.size_push]) (Heap.get?_push_size _ rfl)))))), rfl, rfl⟩ ⟨_, (Heap.get?_push_of_some _ (Heap.get?_push_of_some _ (Heap.get?_push_of_some _ (at_top (by simp only [Heap.size_push]) (Heap.get?_push_size _ rfl))))), rfl, rfl⟩ fun c o e => (Heap.get?_push_of_some _ (Heap.get?_push_of_some _ (Heap.get?_push_of_some _ (Heap.get?_push_of_some _ (Heap.get?_push_of_some _ (Heap.get?_push_of_some _ (Heap.get?_push_of_some _ e)))))))
theorem call4 {l1 l2 l3 l4 : Addr} {xs1 xs2 xs3 xs4 : Array Value} {Q : Value → Shared → Prop} (g1 : s.heap.IsList l1 xs1) (g2 : s.heap.IsList l2 xs2) (g3 : s.heap.IsList l3 xs3) (g4 : s.heap.IsList l4 xs4)
    (h : ∀ h', IsZip h' (s.heap.objs.size + 6) (s.heap.objs.size + 4) (s.heap.objs.size + 5) .none → IsTupA h' (s.heap.objs.size + 4) #[.ref s.heap.objs.size, .ref (s.heap.objs.size + 1), .ref (s.heap.objs.size + 2), .ref (s.heap.objs.size + 3)] → IsTupA h' (s.heap.objs.size + 5) #[.none, .none, .none, .none] → h'.IsListIter s.heap.objs.size l1 0 → h'.IsListIter (s.heap.objs.size + 1) l2 0 → h'.IsListIter (s.heap.objs.size + 2) l3 0 → h'.IsListIter (s.heap.objs.size + 3) l4 0 → (∀ c o, s.heap.get? c = some o → h'.get? c = some o) → Q (.ref (s.heap.objs.size + 6)) { s with heap := h' }) :
    wpAny (model prog w) A (call (.type "zip") [.ref l1, .ref l2, .ref l3, .ref l4]) Q E s :=
  callType_new F.called_zip (by decide) (by kernel_rfl) (by kernel_rfl) (fun obj => by
    unfold argsOk
    rw [signature?_of (id := "object.__init__") (n := ['_', '_', 't', 'i', 'n', 'i', '_', '_']) (o := ['t', 'c', 'e', 'j', 'b', 'o']) (by kernel_rfl) F.owner_object]
    kernel_rfl) F.entry_zip_new (made4 (xs1 := xs1) (xs2 := xs2) (xs3 := xs3) (xs4 := xs4)) ⟨g1, g2, g3, g4, fun h' b1 b2 b3 p1 p2 p3 p4 b5 => ⟨⟨_, b1, rfl⟩, h h' b1 b2 b3 p1 p2 p3 p4 b5⟩⟩
end
/-- the lists as they stand at each turn, the items in new tuples -/
def It4 (K : PySem.W.Frag) (l1 l2 l3 l4 : Addr) : It :=
  ⟨fun i H => ∃ (ys1 ys2 ys3 ys4 : List V) (x1 x2 x3 x4 : V), SqL K H l1 ys1 ∧ SqL K H l2 ys2 ∧ SqL K H l3 ys3 ∧ SqL K H l4 ys4 ∧ ys1[i]? = some x1 ∧ ys2[i]? = some x2 ∧ ys3[i]? = some x3 ∧ ys4[i]? = some x4,
    fun i H v H' => ∃ (T : Addr) (x1 x2 x3 x4 : V), v = .ref T ∧ H T = none ∧ H' = upd H T (.tup [x1, x2, x3, x4]) ∧ (∀ ys, SqL K H l1 ys → ys[i]? = some x1) ∧ (∀ ys, SqL K H l2 ys → ys[i]? = some x2) ∧ (∀ ys, SqL K H l3 ys → ys[i]? = some x3) ∧ (∀ ys, SqL K H l4 ys → ys[i]? = some x4),
    fun i H => ∃ ys1 ys2 ys3 ys4 : List V, SqL K H l1 ys1 ∧ SqL K H l2 ys2 ∧ SqL K H l3 ys3 ∧ SqL K H l4 ys4 ∧ ys1.length ≤ i⟩
theorem turn4 {P : Program} {w : World} {K : PySem.W.Frag} {elts : List Expr} {kk : Nat} {tpos : Pos} {z TI TO i1 i2 i3 i4 l1 l2 l3 l4 : Addr} (D : [z, TI, TO, i1, i2, i3, i4].Nodup) (d1 : l1 ∉ [z, TO, i1, i2, i3, i4]) (d2 : l2 ∉ [z, TO, i1, i2, i3, i4]) (d3 : l3 ∉ [z, TO, i1, i2, i3, i4]) (d4 : l4 ∉ [z, TO, i1, i2, i3, i4]) :
    Turn P w K (.Tuple elts kk tpos) (It4 K l1 l2 l3 l4) [z, TI, TO, i1, i2, i3, i4] z (fun i h => IsZip h z TI TO .none ∧ IsTupA h TI #[.ref i1, .ref i2, .ref i3, .ref i4] ∧ (∃ a1 a2 a3 a4, IsTupA h TO #[a1, a2, a3, a4]) ∧ h.IsListIter i1 l1 i ∧ h.IsListIter i2 l2 i ∧ h.IsListIter i3 l3 i ∧ h.IsListIter i4 l4 i) := by
  have nTI : TI ≠ z := fun q => by simp [q] at D
  have nTIO : TI ≠ TO := fun q => by simp [q] at D
  have nTO : TO ≠ z := fun q => by simp [q] at D
  have nTI1 : TI ≠ i1 := fun q => by simp [q] at D
  have nz1 : i1 ≠ z := fun q => by simp [q] at D
  have nTI2 : TI ≠ i2 := fun q => by simp [q] at D
  have nz2 : i2 ≠ z := fun q => by simp [q] at D
  have nTI3 : TI ≠ i3 := fun q => by simp [q] at D
  have nz3 : i3 ≠ z := fun q => by simp [q] at D
  have nTI4 : TI ≠ i4 := fun q => by simp [q] at D
  have nz4 : i4 ≠ z := fun q => by simp [q] at D
  refine ⟨by simp, fun i h st c hc => ?_, fun i h h' st k => ?_, ?_, ?_, fun A i s Q E st h => wpAny_pyIter_zip st.1 h⟩
  · obtain ⟨hz, hI, ⟨a1, a2, a3, a4, hO⟩, h1, h2, h3, h4⟩ := st
    have hc : c = z ∨ c = TI ∨ c = TO ∨ c = i1 ∨ c = i2 ∨ c = i3 ∨ c = i4 := by simpa using hc
    rcases hc with rfl | rfl | rfl | rfl | rfl | rfl | rfl
    · exact ⟨_, hz, fun v q => nomatch q⟩
    · exact ⟨_, hI, fun v q => nomatch q⟩
    · exact ⟨_, hO, fun v q => nomatch q⟩
    · obtain ⟨o, e, _, dd⟩ := h1
      exact ⟨o, e, fun v q => by rw [dd] at q; cases q⟩
    · obtain ⟨o, e, _, dd⟩ := h2
      exact ⟨o, e, fun v q => by rw [dd] at q; cases q⟩
    · obtain ⟨o, e, _, dd⟩ := h3
      exact ⟨o, e, fun v q => by rw [dd] at q; cases q⟩
    · obtain ⟨o, e, _, dd⟩ := h4
      exact ⟨o, e, fun v q => by rw [dd] at q; cases q⟩
  · obtain ⟨hz, hI, ⟨a1, a2, a3, a4, hO⟩, h1, h2, h3, h4⟩ := st
    exact ⟨k z (by simp) _ hz, k TI (by simp) _ hI, ⟨a1, a2, a3, a4, k TO (by simp) _ hO⟩, h1.at fun o q => k i1 (by simp) o q, h2.at fun o q => k i2 (by simp) o q, h3.at fun o q => k i3 (by simp) o q, h4.at fun o q => k i4 (by simp) o q⟩
  · intro X hP hw hK hc i pins s σ H E I hf st hg
    subst hP hw hK
    obtain ⟨hz, hI, ⟨a1, a2, a3, a4, hO⟩, h1, h2, h3, h4⟩ := st
    obtain ⟨ys1, ys2, ys3, ys4, x1, x2, x3, x4, q1, q2, q3, q4, e1, e2, e3, e4⟩ := hg
    obtain ⟨t1, r1, p1, _⟩ := I.list q1
    obtain ⟨u1, v1, w1⟩ := r1.get e1
    obtain ⟨t2, r2, p2, _⟩ := I.list q2
    obtain ⟨u2, v2, w2⟩ := r2.get e2
    obtain ⟨t3, r3, p3, _⟩ := I.list q3
    obtain ⟨u3, v3, w3⟩ := r3.get e3
    obtain ⟨t4, r4, p4, _⟩ := I.list q4
    obtain ⟨u4, v4, w4⟩ := r4.get e4
    have zl : z < s.heap.objs.size := Heap.lt_size hz
    refine next4 D d1 d2 d3 d4 hz hI hO h1 p1.isList h2 p2.isList h3 p3.isList h4 p4.isList (x1 := u1) (x2 := u2) (x3 := u3) (x4 := u4) (by simpa using v1) (by simpa using v2) (by simpa using v3) (by simpa using v4) fun h' z1 O1 j1 j2 j3 j4 T1 sz1 k1 => ?_
    refine ⟨_, rfl, wpAny_letOwnedTupleGo_zip (s := { s with heap := h' }) z1 fun h2 z2 sb => ?_⟩
    have T2 : IsTupA h2 s.heap.objs.size #[u1, u2, u3, u4] := (sb.2 _ (Nat.ne_of_gt zl)).trans T1
    have new : ObjOk X.prog X.w (upd H s.heap.objs.size (.tup [x1, x2, x3, x4])) h2 s.heap.objs.size (.tup [x1, x2, x3, x4]) := ⟨by show 4 ≤ sizeLine; decide, [u1, u2, u3, u4], (.cons w1 (.cons w2 (.cons w3 (.cons w4 .nil)))), ⟨_, T2, rfl, _, rfl⟩⟩
    have old : ∀ c o, c ∉ [z, TI, TO, i1, i2, i3, i4] → s.heap.get? c = some o → h2.get? c = some o := fun c o m q => (sb.2 c (fun r => m (by simp [r]))).trans (k1 c o (fun r => m (by simp at r ⊢; rcases r with r | r | r | r | r | r <;> simp [r])) q)
    have I1 := I.turnedNew (t' := s.toks) (ch := [z, TI, TO, i1, i2, i3, i4]) old hf (Nat.le_refl _) new
    refine ⟨.ref s.heap.objs.size, _, I1, rfl, ⟨_, x1, x2, x3, x4, rfl, I.hok.fresh (Nat.le_refl _), rfl, fun l hl => by rw [I.list_inj hl q1]; exact e1, fun l hl => by rw [I.list_inj hl q2]; exact e2, fun l hl => by rw [I.list_inj hl q3]; exact e3, fun l hl => by rw [I.list_inj hl q4]; exact e4⟩, ⟨z2, ?_, ⟨u1, u2, u3, u4, (sb.2 _ nTO).trans O1⟩, j1.at fun o q => (sb.2 _ nz1).trans q, j2.at fun o q => (sb.2 _ nz2).trans q, j3.at fun o q => (sb.2 _ nz3).trans q, j4.at fun o q => (sb.2 _ nz4).trans q⟩, fun c hcm => ?_⟩
    · exact (sb.2 _ nTI).trans (k1 _ _ (by simp [nTI, nTIO, nTI1, nTI2, nTI3, nTI4]) hI)
    · have lt : c < s.heap.objs.size := by
        have hcm : c = z ∨ c = TI ∨ c = TO ∨ c = i1 ∨ c = i2 ∨ c = i3 ∨ c = i4 := by simpa using hcm
        rcases hcm with rfl | rfl | rfl | rfl | rfl | rfl | rfl
        · exact zl
        · exact Heap.lt_size hI
        · exact Heap.lt_size hO
        · obtain ⟨_, q, _⟩ := h1
          exact Heap.lt_size q
        · obtain ⟨_, q, _⟩ := h2
          exact Heap.lt_size q
        · obtain ⟨_, q, _⟩ := h3
          exact Heap.lt_size q
        · obtain ⟨_, q, _⟩ := h4
          exact Heap.lt_size q
      rw [upd_ne (Nat.ne_of_lt lt)]
      exact (hf c hcm).1
  · intro X hP hw hK hc i pins s σ H E I hf st hg
    subst hP hw hK
    obtain ⟨hz, hI, ⟨a1, a2, a3, a4, hO⟩, h1, h2, h3, h4⟩ := st
    obtain ⟨ys1, ys2, ys3, ys4, q1, q2, q3, q4, le⟩ := hg
    obtain ⟨t1, r1, p1, _⟩ := I.list q1
    obtain ⟨t2, r2, p2, _⟩ := I.list q2
    obtain ⟨t3, r3, p3, _⟩ := I.list q3
    obtain ⟨t4, r4, p4, _⟩ := I.list q4
    have ln := r1.length
    exact stop4 (I.ok.hd hc) D d1 d2 d3 d4 hz hI hO h1 p1.isList h2 p2.isList h3 p3.isList h4 p4.isList (by simp; omega) fun h' hk => ⟨rfl, I.turnedL (t' := s.toks) (ch := [z, TI, TO, i1, i2, i3, i4]) (fun c o m q => hk c o (fun r => m (by simp at r ⊢; rcases r with r | r | r | r | r | r <;> simp [r])) q) hf⟩
def iZip4 (K : PySem.W.Frag) (ta : TA) : TI := fun σ H R => ta σ H fun vs H1 => ∃ (l1 l2 l3 l4 : Addr) (ys1 ys2 ys3 ys4 : List V), vs = [.ref l1, .ref l2, .ref l3, .ref l4] ∧ SqL K H1 l1 ys1 ∧ SqL K H1 l2 ys2 ∧ SqL K H1 l3 ys3 ∧ SqL K H1 l4 ys4 ∧ R (It4 K l1 l2 l3 l4) H1
theorem pi_zip4 {X : Cx} {e1 e2 e3 e4 : Expr} {ta : TA} {p pos tpos : Pos} {elts : List Expr} {kk : Nat} (hg : Gl X "zip") (hm : X.mg "zip" = none) (ha : PA X [e1, e2, e3, e4] ta)
    (hs : starEach [e1, e2, e3, e4] X.env = (false, eval e1 X.env) :: starEach [e2, e3, e4] X.env := by rfl) (hpl : (backTo pos (starEach [e2, e3, e4] X.env)).any (·.1) = false := by rfl) :
    PI X (.Tuple elts kk tpos) (.Call (.Name "zip" p) [e1, e2, e3, e4] [] pos) (iZip4 X.K ta) := by
  constructor
  intro pins s σ H R I h
  refine Call_ (ld_blt I hg hm PyProof.Rows.boot_zip (PyProof.Rows.callWith_type1 (thn (ha.run pos pins s σ H _ I h) fun us s1 ⟨vs, H1, I1, r1, q1⟩ => ?_) hs hpl))
  obtain ⟨l1, l2, l3, l4, ys1, ys2, ys3, ys4, rfl, q1, q2, q3, q4, q⟩ := q1
  obtain ⟨c1, d1, rfl, b1, r2⟩ := vals_cons r1
  obtain ⟨c2, d2, rfl, b2, r3⟩ := vals_cons r2
  obtain ⟨c3, d3, rfl, b3, r4⟩ := vals_cons r3
  obtain ⟨c4, d4, rfl, b4, r5⟩ := vals_cons r4
  obtain rfl := vals_nil r5
  cases b1
  obtain ⟨t1, w1, p1, _⟩ := I1.list q1
  have m1 : l1 < s1.heap.objs.size := p1.lt
  cases b2
  obtain ⟨t2, w2, p2, _⟩ := I1.list q2
  have m2 : l2 < s1.heap.objs.size := p2.lt
  cases b3
  obtain ⟨t3, w3, p3, _⟩ := I1.list q3
  have m3 : l3 < s1.heap.objs.size := p3.lt
  cases b4
  obtain ⟨t4, w4, p4, _⟩ := I1.list q4
  have m4 : l4 < s1.heap.objs.size := p4.lt
  refine call4 p1.isList p2.isList p3.isList p4.isList fun h' hz hI hO h1 h2 h3 h4 hk => wpAny_pyIter_zip hz ?_
  have I2 : Inv X pins σ H1 { s1 with heap := h' } := I1.kept (t' := s1.toks) hk
  have big : ∀ c ∈ [s1.heap.objs.size + 6, s1.heap.objs.size + 4, s1.heap.objs.size + 5, s1.heap.objs.size, s1.heap.objs.size + 1, s1.heap.objs.size + 2, s1.heap.objs.size + 3], s1.heap.objs.size ≤ c := fun c m => by
    simp only [List.mem_cons, List.not_mem_nil, or_false] at m
    omega
  have big2 : ∀ c ∈ [s1.heap.objs.size + 6, s1.heap.objs.size + 5, s1.heap.objs.size, s1.heap.objs.size + 1, s1.heap.objs.size + 2, s1.heap.objs.size + 3], s1.heap.objs.size ≤ c := fun c m => by
    simp only [List.mem_cons, List.not_mem_nil, or_false] at m
    omega
  refine ⟨s1.heap.objs.size + 6, [s1.heap.objs.size + 6, s1.heap.objs.size + 4, s1.heap.objs.size + 5, s1.heap.objs.size, s1.heap.objs.size + 1, s1.heap.objs.size + 2, s1.heap.objs.size + 3], _, _, H1, rfl, I2, turn4 (by simp; try omega) (fun q => absurd (big2 _ q) (Nat.not_le_of_lt m1)) (fun q => absurd (big2 _ q) (Nat.not_le_of_lt m2)) (fun q => absurd (big2 _ q) (Nat.not_le_of_lt m3)) (fun q => absurd (big2 _ q) (Nat.not_le_of_lt m4)), ⟨hz, hI, ⟨_, _, _, _, hO⟩, h1, h2, h3, h4⟩, fun c m => I1.fpOk (big c m) (I1.hok.fresh (big c m)), q⟩
end ZN

namespace IXL
open PySem PySem.Spec PyProof.Rows L2
/-! ### list.index of a number that is there -/
theorem ints_are : ∀ {ns : List Int} {us : List Value}, Vals (ns.map V.int) us → IntsAre us ns
  | [], us, h => by cases h; exact .nil
  | n :: r, us, h => by
    cases h with
    | cons a b =>
      obtain ⟨t, rfl⟩ := a
      exact .cons n t (ints_are b)
theorem mt_indexI {X : Cx} : MtR X "list.index" (fun x vs H Q => ∃ (l : Addr) (ns : List Int) (k : Int), x = .ref l ∧ vs = [.int k] ∧ H l = some (.lst (ns.map V.int)) ∧ k ∈ ns ∧ Q (.int (ns.idxOf k : Nat)) H) := by
  intro pins s σ H x vs v us Q I rx rv h
  obtain ⟨l, ns, k, rfl, rfl, hH, hk, q⟩ := h
  cases rx
  obtain ⟨u, rfl, ru⟩ := rv.one
  obtain ⟨t, rfl⟩ := ru
  obtain ⟨z, its, n, r, hl, e⟩ := I.lstM hH
  refine PySem.SeqAt.list_index_ints (vs := its) ⟨_, e, rfl, ⟨_, rfl⟩⟩ (ints_are r) (by rw [List.length_map] at z; exact z) hk ?_
  exact ⟨.int (ns.idxOf k : Nat), H, I.tok _, ⟨_, rfl⟩, q⟩
/-- a method of a built-in type, in a block -/
theorem pe_bmK {X : Cx} {K : PySem.W.Frag} (hK : X.K = K) {o e : Expr} {es : List Expr} {to : TE} {t : TA} {name : Str} {apos cpos : Pos} {T id : String} {r : V → List V → Hp → VK → Prop} (pa : PlainAttrs T) (slot : Slot T name id) (hty : typeOf (.builtin id) = pure (.type "method_descriptor")) (hm : MtR X id r) (ho : PE X o to) (ha : PA X (e :: es) t)
    (hbase : attributeBase o name X.env (eval o X.env) = eval o X.env := by rfl)
    (hfew : ((backTo cpos (starEach (e :: es) X.env)).all (fun x => !x.1) && (backToKw cpos (keywordEach [] X.env)).all (fun x => x.1.isSome)
      && decide ((e :: es).length + ([] : List Keyword).length + (if ([] : List Keyword).isEmpty then 0 else 1) < 30)) = true := by rfl)
    (hline : (apos.endLine == cpos.line) = true := by rfl) (hs : starEach (e :: es) X.env = (false, eval e X.env) :: starEach es X.env := by rfl) (hplain : (backTo cpos (starEach es X.env)).any (·.1) = false := by rfl) :
    PE X (.Call (.Attribute o name apos) (e :: es) [] cpos) (tBM K T r to t) := hK ▸ pe_bm pa slot hty hm ho ha hbase hfew hline hs hplain
end IXL

namespace K6
open PySem PySem.Spec PyProof.Rows L2
def top (i : Nat) : Stmt := PySem.Challenge.pw_flatsheaves_k06_vector_instructions.main.body.getD i (.Pass ⟨0, 0, 0, 0⟩)
abbrev s_wrapped : Stmt := top 6
theorem sc_wrapped : FnScope ["n"] ["n"] (defScope s_wrapped) := ⟨rfl, rfl, rfl, by decide +kernel, rfl, by decide +kernel, by decide +kernel⟩
abbrev s_added : Stmt := top 7
theorem sc_added : FnScope ["a", "b"] ["a", "b"] (defScope s_added) := ⟨rfl, rfl, rfl, by decide +kernel, rfl, by decide +kernel, by decide +kernel⟩
abbrev s_subtracted : Stmt := top 8
theorem sc_subtracted : FnScope ["a", "b"] ["a", "b"] (defScope s_subtracted) := ⟨rfl, rfl, rfl, by decide +kernel, rfl, by decide +kernel, by decide +kernel⟩
abbrev s_multiplied : Stmt := top 9
theorem sc_multiplied : FnScope ["a", "b"] ["a", "b"] (defScope s_multiplied) := ⟨rfl, rfl, rfl, by decide +kernel, rfl, by decide +kernel, by decide +kernel⟩
abbrev s_quotient : Stmt := top 10
theorem sc_quotient : FnScope ["a", "b"] ["a", "b"] (defScope s_quotient) := ⟨rfl, rfl, rfl, by decide +kernel, rfl, by decide +kernel, by decide +kernel⟩
abbrev s_remainder : Stmt := top 11
theorem sc_remainder : FnScope ["a", "b"] ["a", "b"] (defScope s_remainder) := ⟨rfl, rfl, rfl, by decide +kernel, rfl, by decide +kernel, by decide +kernel⟩
abbrev s_smaller : Stmt := top 12
theorem sc_smaller : FnScope ["a", "b"] ["a", "b"] (defScope s_smaller) := ⟨rfl, rfl, rfl, by decide +kernel, rfl, by decide +kernel, by decide +kernel⟩
abbrev s_larger : Stmt := top 13
theorem sc_larger : FnScope ["a", "b"] ["a", "b"] (defScope s_larger) := ⟨rfl, rfl, rfl, by decide +kernel, rfl, by decide +kernel, by decide +kernel⟩
abbrev s_is_less : Stmt := top 14
theorem sc_is_less : FnScope ["a", "b"] ["a", "b"] (defScope s_is_less) := ⟨rfl, rfl, rfl, by decide +kernel, rfl, by decide +kernel, by decide +kernel⟩
abbrev s_is_equal : Stmt := top 15
theorem sc_is_equal : FnScope ["a", "b"] ["a", "b"] (defScope s_is_equal) := ⟨rfl, rfl, rfl, by decide +kernel, rfl, by decide +kernel, by decide +kernel⟩
abbrev s_calculate : Stmt := top 17
theorem sc_calculate : FnScope ["sign", "a", "b", "operation"] ["sign", "a", "b"] (defScope s_calculate) := ⟨rfl, rfl, rfl, by decide +kernel, rfl, by decide +kernel, by decide +kernel⟩
abbrev s_execute : Stmt := top 20
theorem sc_execute : FnScope ["name", "extra", "inputs", "instruction"] ["name", "extra", "inputs"] (defScope s_execute) := ⟨rfl, rfl, rfl, by decide +kernel, rfl, by decide +kernel, by decide +kernel⟩
abbrev s_starts_of : Stmt := top 21
theorem sc_starts_of : FnScope ["lengths", "starts", "start", "length"] ["lengths"] (defScope s_starts_of) := ⟨rfl, rfl, rfl, by decide +kernel, rfl, by decide +kernel, by decide +kernel⟩
abbrev s_fill : Stmt := top 22
theorem sc_fill : FnScope ["extra", "inputs", "_"] ["extra", "inputs"] (defScope s_fill) := ⟨rfl, rfl, rfl, by decide +kernel, rfl, by decide +kernel, by decide +kernel⟩
abbrev s_calc : Stmt := top 23
theorem sc_calc : FnScope ["extra", "inputs", "a", "b"] ["extra", "inputs"] (defScope s_calc) := ⟨rfl, rfl, rfl, by decide +kernel, rfl, by decide +kernel, by decide +kernel⟩
abbrev s_take : Stmt := top 24
theorem sc_take : FnScope ["_", "inputs", "vector", "indexes", "index"] ["_", "inputs"] (defScope s_take) := ⟨rfl, rfl, rfl, by decide +kernel, rfl, by decide +kernel, by decide +kernel⟩
abbrev s_pick : Stmt := top 25
theorem sc_pick : FnScope ["_", "inputs", "lengths", "segments", "starts", "at", "index"] ["_", "inputs"] (defScope s_pick) := ⟨rfl, rfl, rfl, by decide +kernel, rfl, by decide +kernel, by decide +kernel⟩
abbrev s_repeat : Stmt := top 26
theorem sc_repeat : FnScope ["_", "inputs", "at", "length"] ["_", "inputs"] (defScope s_repeat) := ⟨rfl, rfl, rfl, by decide +kernel, rfl, by decide +kernel, by decide +kernel⟩
abbrev s_count : Stmt := top 27
theorem sc_count : FnScope ["_", "inputs", "length", "k"] ["_", "inputs"] (defScope s_count) := ⟨rfl, rfl, rfl, by decide +kernel, rfl, by decide +kernel, by decide +kernel⟩
abbrev s_where : Stmt := top 28
theorem sc_where : FnScope ["extra", "inputs", "index", "item"] ["extra", "inputs"] (defScope s_where) := ⟨rfl, rfl, rfl, by decide +kernel, rfl, by decide +kernel, by decide +kernel⟩
abbrev s_weave : Stmt := top 29
theorem sc_weave : FnScope ["_", "inputs", "marked", "item", "others", "numbers"] ["_", "inputs"] (defScope s_weave) := ⟨rfl, rfl, rfl, by decide +kernel, rfl, by decide +kernel, by decide +kernel⟩
abbrev s_join : Stmt := top 30
theorem sc_join : FnScope ["_", "inputs"] ["_", "inputs"] (defScope s_join) := ⟨rfl, rfl, rfl, by decide +kernel, rfl, by decide +kernel, by decide +kernel⟩
abbrev s_sums : Stmt := top 31
theorem sc_sums : FnScope ["_", "inputs", "lengths", "vector", "starts", "start", "length"] ["_", "inputs"] (defScope s_sums) := ⟨rfl, rfl, rfl, by decide +kernel, rfl, by decide +kernel, by decide +kernel⟩
abbrev s_zip_segments : Stmt := top 32
theorem sc_zip_segments : FnScope ["_", "inputs", "lengths", "others", "behind", "indexes", "start", "length", "other_start", "other"] ["_", "inputs"] (defScope s_zip_segments) := ⟨rfl, rfl, rfl, by decide +kernel, rfl, by decide +kernel, by decide +kernel⟩
abbrev s_place : Stmt := top 33
theorem sc_place : FnScope ["_", "inputs", "lengths", "places", "indexes", "start", "length", "at"] ["_", "inputs"] (defScope s_place) := ⟨rfl, rfl, rfl, by decide +kernel, rfl, by decide +kernel, by decide +kernel⟩
abbrev s_need_range : Stmt := top 34
theorem sc_need_range : FnScope ["_", "inputs", "item"] ["_", "inputs"] (defScope s_need_range) := ⟨rfl, rfl, rfl, by decide +kernel, rfl, by decide +kernel, by decide +kernel⟩
abbrev s_need_same : Stmt := top 35
theorem sc_need_same : FnScope ["_", "inputs"] ["_", "inputs"] (defScope s_need_same) := ⟨rfl, rfl, rfl, by decide +kernel, rfl, by decide +kernel, by decide +kernel⟩
abbrev s_flags : Stmt := top 36
theorem sc_flags : FnScope ["_", "inputs", "item"] ["_", "inputs"] (defScope s_flags) := ⟨rfl, rfl, rfl, by decide +kernel, rfl, by decide +kernel, by decide +kernel⟩
abbrev s_law_state : Stmt := top 39
theorem sc_law_state : FnScope ["script", "seed", "cell"] ["script"] (defScope s_law_state) := ⟨rfl, rfl, rfl, by decide +kernel, rfl, by decide +kernel, by decide +kernel⟩
abbrev s_law_draw : Stmt := top 40
theorem sc_law_draw : FnScope ["state", "many", "cells", "value", "mixed"] ["state", "many"] (defScope s_law_draw) := ⟨rfl, rfl, rfl, by decide +kernel, rfl, by decide +kernel, by decide +kernel⟩
abbrev s_law_pick : Stmt := top 41
theorem sc_law_pick : FnScope ["state", "row"] ["state", "row"] (defScope s_law_pick) := ⟨rfl, rfl, rfl, by decide +kernel, rfl, by decide +kernel, by decide +kernel⟩
abbrev s_law_number : Stmt := top 42
theorem sc_law_number : FnScope ["state", "edges"] ["state"] (defScope s_law_number) := ⟨rfl, rfl, rfl, by decide +kernel, rfl, by decide +kernel, by decide +kernel⟩
abbrev s_law_wrap : Stmt := top 43
theorem sc_law_wrap : FnScope ["n"] ["n"] (defScope s_law_wrap) := ⟨rfl, rfl, rfl, by decide +kernel, rfl, by decide +kernel, by decide +kernel⟩
abbrev s_law_told : Stmt := top 44
theorem sc_law_told : FnScope ["name", "extra", "inputs", "before", "out", "told", "item"] ["name", "extra", "inputs"] (defScope s_law_told) := ⟨rfl, rfl, rfl, by decide +kernel, rfl, by decide +kernel, by decide +kernel⟩
abbrev s_law_segments : Stmt := top 45
theorem sc_law_segments : FnScope ["lengths", "row", "out", "at", "length"] ["lengths", "row"] (defScope s_law_segments) := ⟨rfl, rfl, rfl, by decide +kernel, rfl, by decide +kernel, by decide +kernel⟩
abbrev s_law_due : Stmt := top 46
theorem sc_law_due : FnScope ["name", "extra", "inputs", "first", "ones", "item", "k", "n"] ["name", "extra", "inputs"] (defScope s_law_due) := ⟨rfl, rfl, rfl, by decide +kernel, rfl, by decide +kernel, by decide +kernel⟩
abbrev s_law_due_segments : Stmt := top 47
theorem sc_law_due_segments : FnScope ["name", "lengths", "inputs", "total", "length", "k", "indexes", "out", "at", "row", "many", "item", "other", "others"] ["name", "lengths", "inputs"] (defScope s_law_due_segments) := ⟨rfl, rfl, rfl, by decide +kernel, rfl, by decide +kernel, by decide +kernel⟩
abbrev s_law : Stmt := top 48
theorem sc_law : FnScope ["script", "state", "k", "lengths", "total", "length", "numbers", "lane", "others", "indexes", "inside", "same", "ranged", "rows", "name", "extra", "inputs", "mixed", "sign", "a", "due", "b", "table", "trapped", "n", "item"] ["script"] (defScope s_law) := ⟨rfl, rfl, rfl, by decide +kernel, rfl, by decide +kernel, by decide +kernel⟩
/-! ### what stands where -/
structure DefAt (K : PySem.W.Frag) (mg : Str → Option Value) (x : Str) (st : Stmt) (ps : List Str) (f : Addr × FuncData) : Prop where
  F : Fun K x x st f.1 f.2
  g : mg x = some (.ref f.1)
  b : Binds K f.2 ps []
structure Ad where
  wrapped : Addr × FuncData
  added : Addr × FuncData
  subtracted : Addr × FuncData
  multiplied : Addr × FuncData
  quotient : Addr × FuncData
  remainder : Addr × FuncData
  smaller : Addr × FuncData
  larger : Addr × FuncData
  is_less : Addr × FuncData
  is_equal : Addr × FuncData
  calculate : Addr × FuncData
  execute : Addr × FuncData
  starts_of : Addr × FuncData
  fill : Addr × FuncData
  calc_ : Addr × FuncData
  take_ : Addr × FuncData
  pick : Addr × FuncData
  repeat_ : Addr × FuncData
  count_ : Addr × FuncData
  where_ : Addr × FuncData
  weave : Addr × FuncData
  join_ : Addr × FuncData
  sums : Addr × FuncData
  zip_segments : Addr × FuncData
  place : Addr × FuncData
  need_range : Addr × FuncData
  need_same : Addr × FuncData
  flags : Addr × FuncData
  law_state : Addr × FuncData
  law_draw : Addr × FuncData
  law_pick : Addr × FuncData
  law_number : Addr × FuncData
  law_wrap : Addr × FuncData
  law_told : Addr × FuncData
  law_segments : Addr × FuncData
  law_due : Addr × FuncData
  law_due_segments : Addr × FuncData
  law : Addr × FuncData
  FlatError : Addr
  TrapError : Addr
  OPS : Addr
  INS : Addr
structure Txt (w : World) (K : PySem.W.Frag) (mg : Str → Option Value) (a : Ad) : Prop where
  wrapped : DefAt K mg "wrapped" s_wrapped ["n"] a.wrapped
  added : DefAt K mg "added" s_added ["a", "b"] a.added
  subtracted : DefAt K mg "subtracted" s_subtracted ["a", "b"] a.subtracted
  multiplied : DefAt K mg "multiplied" s_multiplied ["a", "b"] a.multiplied
  quotient : DefAt K mg "quotient" s_quotient ["a", "b"] a.quotient
  remainder : DefAt K mg "remainder" s_remainder ["a", "b"] a.remainder
  smaller : DefAt K mg "smaller" s_smaller ["a", "b"] a.smaller
  larger : DefAt K mg "larger" s_larger ["a", "b"] a.larger
  is_less : DefAt K mg "is_less" s_is_less ["a", "b"] a.is_less
  is_equal : DefAt K mg "is_equal" s_is_equal ["a", "b"] a.is_equal
  calculate : DefAt K mg "calculate" s_calculate ["sign", "a", "b"] a.calculate
  execute : DefAt K mg "execute" s_execute ["name", "extra", "inputs"] a.execute
  starts_of : DefAt K mg "starts_of" s_starts_of ["lengths"] a.starts_of
  fill : DefAt K mg "fill" s_fill ["extra", "inputs"] a.fill
  calc_ : DefAt K mg "calc" s_calc ["extra", "inputs"] a.calc_
  take_ : DefAt K mg "take" s_take ["_", "inputs"] a.take_
  pick : DefAt K mg "pick" s_pick ["_", "inputs"] a.pick
  repeat_ : DefAt K mg "repeat" s_repeat ["_", "inputs"] a.repeat_
  count_ : DefAt K mg "count" s_count ["_", "inputs"] a.count_
  where_ : DefAt K mg "where" s_where ["extra", "inputs"] a.where_
  weave : DefAt K mg "weave" s_weave ["_", "inputs"] a.weave
  join_ : DefAt K mg "join" s_join ["_", "inputs"] a.join_
  sums : DefAt K mg "sums" s_sums ["_", "inputs"] a.sums
  zip_segments : DefAt K mg "zip_segments" s_zip_segments ["_", "inputs"] a.zip_segments
  place : DefAt K mg "place" s_place ["_", "inputs"] a.place
  need_range : DefAt K mg "need_range" s_need_range ["_", "inputs"] a.need_range
  need_same : DefAt K mg "need_same" s_need_same ["_", "inputs"] a.need_same
  flags : DefAt K mg "flags" s_flags ["_", "inputs"] a.flags
  law_state : DefAt K mg "_law_state" s_law_state ["script"] a.law_state
  law_draw : DefAt K mg "_law_draw" s_law_draw ["state", "many"] a.law_draw
  law_pick : DefAt K mg "_law_pick" s_law_pick ["state", "row"] a.law_pick
  law_number : DefAt K mg "_law_number" s_law_number ["state"] a.law_number
  law_wrap : DefAt K mg "_law_wrap" s_law_wrap ["n"] a.law_wrap
  law_told : DefAt K mg "_law_told" s_law_told ["name", "extra", "inputs"] a.law_told
  law_segments : DefAt K mg "_law_segments" s_law_segments ["lengths", "row"] a.law_segments
  law_due : DefAt K mg "_law_due" s_law_due ["name", "extra", "inputs"] a.law_due
  law_due_segments : DefAt K mg "_law_due_segments" s_law_due_segments ["name", "lengths", "inputs"] a.law_due_segments
  law : DefAt K mg "law" s_law ["script"] a.law
  len : mg "len" = none
  abs : mg "abs" = none
  int : mg "int" = none
  min : mg "min" = none
  max : mg "max" = none
  isinstance : mg "isinstance" = none
  range : mg "range" = none
  zip : mg "zip" = none
  enumerate : mg "enumerate" = none
  list : mg "list" = none
  sum : mg "sum" = none
  repr : mg "repr" = none
  gFlatError : mg "FlatError" = some (.ref a.FlatError)
  gTrapError : mg "TrapError" = some (.ref a.TrapError)
  xT : PySem.W.excIn K a.TrapError [.type "ValueError", .type "Exception", .type "BaseException", .type "object"] "ValueError.__new__" = true
  kT : PySem.W.keepIn K (.ref a.TrapError) = true
  bT : PySem.W.subIn K (.ref a.TrapError) (.type "BaseException") = some true
  tT : PySem.W.typeIn K (.ref a.TrapError) = some (.type "type")
  iT : PySem.W.isClsIn K a.TrapError = true
  sT : PySem.W.subIn K (.ref a.TrapError) (.ref a.TrapError) = some true
  half : ∃ u, mg "HALF" = some u ∧ RelV (.int 2147483648) u
  span : ∃ u, mg "SPAN" = some u ∧ RelV (.int 4294967296) u
  limit : ∃ u, mg "RANGE_LIMIT" = some u ∧ RelV (.int 1000) u
  gOP : mg "OPERATIONS" = some (.ref a.OPS)
  gIN : mg "INSTRUCTIONS" = some (.ref a.INS)
  o_added : KDct K w a.OPS "+" (.ref a.added.1)
  o_subtracted : KDct K w a.OPS "-" (.ref a.subtracted.1)
  o_multiplied : KDct K w a.OPS "*" (.ref a.multiplied.1)
  o_quotient : KDct K w a.OPS "/" (.ref a.quotient.1)
  o_remainder : KDct K w a.OPS "mod" (.ref a.remainder.1)
  o_smaller : KDct K w a.OPS "min" (.ref a.smaller.1)
  o_larger : KDct K w a.OPS "max" (.ref a.larger.1)
  o_is_less : KDct K w a.OPS "<" (.ref a.is_less.1)
  o_is_equal : KDct K w a.OPS "=" (.ref a.is_equal.1)
  n_fill : KDct K w a.INS "fill" (.ref a.fill.1)
  n_calc : KDct K w a.INS "calc" (.ref a.calc_.1)
  n_take : KDct K w a.INS "take" (.ref a.take_.1)
  n_pick : KDct K w a.INS "pick" (.ref a.pick.1)
  n_repeat : KDct K w a.INS "repeat" (.ref a.repeat_.1)
  n_count : KDct K w a.INS "count" (.ref a.count_.1)
  n_where : KDct K w a.INS "where" (.ref a.where_.1)
  n_weave : KDct K w a.INS "weave" (.ref a.weave.1)
  n_join : KDct K w a.INS "join" (.ref a.join_.1)
  n_sums : KDct K w a.INS "sums" (.ref a.sums.1)
  n_zip : KDct K w a.INS "zip" (.ref a.zip_segments.1)
  n_place : KDct K w a.INS "place" (.ref a.place.1)
  n_range : KDct K w a.INS "range" (.ref a.need_range.1)
  n_same : KDct K w a.INS "same" (.ref a.need_same.1)
  n_flags : KDct K w a.INS "flags" (.ref a.flags.1)
/-! ### numbers -/
def InR (n : Int) : Prop := -2147483648 ≤ n ∧ n ≤ 2147483647
def wrap (n : Int) : Int := (n + 2147483648) % 4294967296 - 2147483648
theorem wrap_in (n : Int) : InR (wrap n) := by unfold wrap InR; omega
theorem wrap_id {n : Int} (h : InR n) : wrap n = n := by unfold wrap; unfold InR at h; omega
theorem pe_gv {X : Cx} {x : Str} {v : V} {pos : Pos} (hg : Gl X x) (h : ∃ u, X.mg x = some u ∧ RelV v u) (hd : (x == ("__debug__" : Str)) = false := by decide) : PE X (.Name x pos) (tC v) := by
  obtain ⟨u, a, b⟩ := h
  exact pe_glob hg a b hd
theorem exm_of {K : PySem.W.Frag} {S : Addr} (h1 : PySem.W.subIn K (.ref S) (.type "BaseException") = some true) (h2 : PySem.W.isClsIn K S = true) (h3 : PySem.W.typeIn K (.ref S) = some (.type "type")) (h4 : PySem.W.subIn K (.ref S) (.ref S) = some true) :
    PySem.W.exmOne K (.ref S) (.ref S) = some true := by
  have e1 : (PySem.W.subIn K (.ref S) (.type "BaseException") == some true) = true := by rw [h1] <;> rfl
  have e2 : ((PySem.W.clsIn K S).isSome && PySem.W.typeIn K (.ref S) == some (.type "type")) = true := by
    have h2' : (PySem.W.clsIn K S).isSome = true := h2
    rw [h2', h3] <;> rfl
  show (if (PySem.W.subIn K (.ref S) (.type "BaseException") == some true) = true then (if ((PySem.W.clsIn K S).isSome && PySem.W.typeIn K (.ref S) == some (.type "type")) = true then PySem.W.subIn K (.ref S) (.ref S) else none) else none) = some true
  rw [if_pos e1, if_pos e2]
  exact h4
/-- // by any divisor but 0 of less than 9000 bits -/
def CDivX (_ j : Int) : Prop := j ≠ 0 ∧ j.natAbs.log2 < 9000
theorem op_fdivX {X : Cx} : OpR X (binaryOp .FloorDiv) (rI CDivX fun i j => .int (i.fdiv j)) := opI fun _ _ _ _ _ _ _ hc q => floordiv_int hc.1 q (.inl (PyProof.noPylong_of_log2 hc.2))
theorem divx_ok {i j : Int} (h0 : j ≠ 0) (h : InR j) : CDivX i j := ⟨h0, Nat.lt_of_lt_of_le (PySem.Flt.log2_lt_of (k := 32) (by decide) (by unfold InR at h; omega)) (by decide)⟩
section
variable {P : Program} {w : World} {K : PySem.W.Frag} {mg : Str → Option Value} {base : Heap} {a : Ad}
/-! ### the program -/
def spWrapped : Sp := fun vs H Q _ => ∃ n : Int, vs = [.int n] ∧ Q (.int (wrap n)) H
theorem ok_wrapped (T : Txt w K mg a) : FnOk P w K mg base CX0 1 a.wrapped.1 a.wrapped.2 ["n"] spWrapped := by
  refine T.wrapped.F.ok sc_wrapped (fun vs H Q E h => ?_) (fun cdv A outer s H vs Q E hr h => ?_)
  · obtain ⟨n, rfl, _⟩ := h
    rfl
  obtain ⟨n, rfl, q⟩ := h
  refine ⟨_, (pss_one (ps_ret (pe_op op_sub (pe_op op_mod (pe_op op_add (pv 0) (pe_gv rfl T.half)) (pe_gv rfl T.span)) (pe_gv rfl T.half)))), ?_⟩
  refine ⟨_, rfl, _, _, rfl, rfl, _, _, rfl, rfl, (by show (0 : Int) < 4294967296; decide), _, _, rfl, rfl, q⟩
/-- what a sign means; none: it traps -/
def opI (s : Nat) (i j : Int) : Option Int := match s with
  | 0 => some (i + j)
  | 1 => some (i - j)
  | 2 => some (i * j)
  | 3 => if j = 0 then none else some (i.fdiv j)
  | 4 => if j = 0 then none else some (i.fmod j)
  | 5 => some (if j < i then j else i)
  | 6 => some (if j > i then j else i)
  | 7 => some (if i < j then 1 else 0)
  | _ => some (if i = j then 1 else 0)
def spOp (C : Addr) (s : Nat) : Sp := fun vs H Q E => ∃ i j : Int, vs = [.int i, .int j] ∧ InR i ∧ InR j ∧ (∀ n, opI s i j = some n → Q (.int n) H) ∧ (opI s i j = none → E (.ref C) none H)
theorem ok_added (T : Txt w K mg a) : FnOk P w K mg base (L2.CX P w) 1 a.added.1 a.added.2 ["a", "b"] (spOp a.TrapError 0) := by
  refine T.added.F.okX sc_added (fun vs H Q E h => ?_) (fun cdv A outer s H vs Q E hr h => ?_)
  · obtain ⟨i, j, rfl, _⟩ := h
    rfl
  obtain ⟨i, j, rfl, hi, hj, q, e⟩ := h
  refine ⟨_, (pss_one (ps_ret (pe_op op_add (pv 0) (pv 1)))), ?_⟩
  exact ⟨_, rfl, _, rfl, _, _, rfl, rfl, q _ rfl⟩
theorem ok_subtracted (T : Txt w K mg a) : FnOk P w K mg base (L2.CX P w) 1 a.subtracted.1 a.subtracted.2 ["a", "b"] (spOp a.TrapError 1) := by
  refine T.subtracted.F.okX sc_subtracted (fun vs H Q E h => ?_) (fun cdv A outer s H vs Q E hr h => ?_)
  · obtain ⟨i, j, rfl, _⟩ := h
    rfl
  obtain ⟨i, j, rfl, hi, hj, q, e⟩ := h
  refine ⟨_, (pss_one (ps_ret (pe_op op_sub (pv 0) (pv 1)))), ?_⟩
  exact ⟨_, rfl, _, rfl, _, _, rfl, rfl, q _ rfl⟩
theorem ok_multiplied (T : Txt w K mg a) : FnOk P w K mg base (L2.CX P w) 1 a.multiplied.1 a.multiplied.2 ["a", "b"] (spOp a.TrapError 2) := by
  refine T.multiplied.F.okX sc_multiplied (fun vs H Q E h => ?_) (fun cdv A outer s H vs Q E hr h => ?_)
  · obtain ⟨i, j, rfl, _⟩ := h
    rfl
  obtain ⟨i, j, rfl, hi, hj, q, e⟩ := h
  refine ⟨_, (pss_one (ps_ret (pe_op op_mul (pv 0) (pv 1)))), ?_⟩
  exact ⟨_, rfl, _, rfl, _, _, rfl, rfl, .inl (by unfold InR at hi; omega), q _ rfl⟩
theorem ok_quotient (T : Txt w K mg a) : FnOk P w K mg base (L2.CX P w) 1 a.quotient.1 a.quotient.2 ["a", "b"] (spOp a.TrapError 3) := by
  refine T.quotient.F.okX sc_quotient (fun vs H Q E h => ?_) (fun cdv A outer s H vs Q E hr h => ?_)
  · obtain ⟨i, j, rfl, _⟩ := h
    rfl
  obtain ⟨i, j, rfl, hi, hj, q, e⟩ := h
  refine ⟨_, (pss_cons (ps_if (pt_cmpR op_eq (pv 1) pe_int (nomark _)) (pss_one (ps_raise rfl (takes_of rfl rfl rfl rfl) (pmk_own PySem.F.excBase_ValueError T.xT T.gTrapError T.kT (raises_own T.bT T.tT) rfl))) pss_nil)
  (pss_one (ps_ret (pe_op op_fdivX (pv 0) (pv 1))))), ?_⟩
  refine ⟨_, rfl, rfl, _, rfl, ?_⟩
  refine ite2 (fun c => ?_) (fun c => ?_)
  · have c' : j = 0 := by simpa using c
    exact e (if_pos c')
  · have c' : ¬ j = 0 := fun z => c (by rw [z]; rfl)
    exact ⟨_, rfl, _, rfl, _, _, rfl, rfl, divx_ok c' hj, q _ (if_neg c')⟩
theorem ok_remainder (T : Txt w K mg a) : FnOk P w K mg base (L2.CX P w) 1 a.remainder.1 a.remainder.2 ["a", "b"] (spOp a.TrapError 4) := by
  refine T.remainder.F.okX sc_remainder (fun vs H Q E h => ?_) (fun cdv A outer s H vs Q E hr h => ?_)
  · obtain ⟨i, j, rfl, _⟩ := h
    rfl
  obtain ⟨i, j, rfl, hi, hj, q, e⟩ := h
  refine ⟨_, (pss_cons (ps_if (pt_cmpR op_eq (pv 1) pe_int (nomark _)) (pss_one (ps_raise rfl (takes_of rfl rfl rfl rfl) (pmk_own PySem.F.excBase_ValueError T.xT T.gTrapError T.kT (raises_own T.bT T.tT) rfl))) pss_nil)
  (pss_one (ps_ret (pe_op op_modN (pv 0) (pv 1))))), ?_⟩
  refine ⟨_, rfl, rfl, _, rfl, ?_⟩
  refine ite2 (fun c => ?_) (fun c => ?_)
  · have c' : j = 0 := by simpa using c
    exact e (if_pos c')
  · have c' : ¬ j = 0 := fun z => c (by rw [z]; rfl)
    exact ⟨_, rfl, _, rfl, _, _, rfl, rfl, c', q _ (if_neg c')⟩
theorem ok_smaller (T : Txt w K mg a) : FnOk P w K mg base (L2.CX P w) 1 a.smaller.1 a.smaller.2 ["a", "b"] (spOp a.TrapError 5) := by
  refine T.smaller.F.okX sc_smaller (fun vs H Q E h => ?_) (fun cdv A outer s H vs Q E hr h => ?_)
  · obtain ⟨i, j, rfl, _⟩ := h
    rfl
  obtain ⟨i, j, rfl, hi, hj, q, e⟩ := h
  refine ⟨_, (pss_one (ps_ret (pe_callB (call_min2 rfl) (by rfl) T.min (by decide +kernel) (pa_cons (pv 0) (pa_cons (pv 1) pa_nil))))), ?_⟩
  exact ⟨_, rfl, _, rfl, _, _, rfl, q _ rfl⟩
theorem ok_larger (T : Txt w K mg a) : FnOk P w K mg base (L2.CX P w) 1 a.larger.1 a.larger.2 ["a", "b"] (spOp a.TrapError 6) := by
  refine T.larger.F.okX sc_larger (fun vs H Q E h => ?_) (fun cdv A outer s H vs Q E hr h => ?_)
  · obtain ⟨i, j, rfl, _⟩ := h
    rfl
  obtain ⟨i, j, rfl, hi, hj, q, e⟩ := h
  refine ⟨_, (pss_one (ps_ret (pe_callB (call_max2 rfl) (by rfl) T.max (by decide +kernel) (pa_cons (pv 0) (pa_cons (pv 1) pa_nil))))), ?_⟩
  exact ⟨_, rfl, _, rfl, _, _, rfl, q _ rfl⟩
theorem ok_is_less (T : Txt w K mg a) : FnOk P w K mg base (L2.CX P w) 1 a.is_less.1 a.is_less.2 ["a", "b"] (spOp a.TrapError 7) := by
  refine T.is_less.F.okX sc_is_less (fun vs H Q E h => ?_) (fun cdv A outer s H vs Q E hr h => ?_)
  · obtain ⟨i, j, rfl, _⟩ := h
    rfl
  obtain ⟨i, j, rfl, hi, hj, q, e⟩ := h
  refine ⟨_, (pss_one (ps_ret (pe_ifExp (pt_cmpR op_lt (pv 0) (pv 1) (nomark _)) pe_int pe_int))), ?_⟩
  refine ⟨_, rfl, _, rfl, _, _, rfl, rfl, _, rfl, ?_⟩
  refine ite2 (fun c => ?_) (fun c => ?_)
  · exact q _ (congrArg some (if_pos (of_decide_eq_true c)))
  · exact q _ (congrArg some (if_neg (of_decide_eq_false (Bool.eq_false_iff.mpr c))))
theorem ok_is_equal (T : Txt w K mg a) : FnOk P w K mg base (L2.CX P w) 1 a.is_equal.1 a.is_equal.2 ["a", "b"] (spOp a.TrapError 8) := by
  refine T.is_equal.F.okX sc_is_equal (fun vs H Q E h => ?_) (fun cdv A outer s H vs Q E hr h => ?_)
  · obtain ⟨i, j, rfl, _⟩ := h
    rfl
  obtain ⟨i, j, rfl, hi, hj, q, e⟩ := h
  refine ⟨_, (pss_one (ps_ret (pe_ifExp (pt_cmpR op_eq (pv 0) (pv 1) (nomark _)) pe_int pe_int))), ?_⟩
  refine ⟨_, rfl, _, rfl, rfl, _, rfl, ?_⟩
  refine ite2 (fun c => ?_) (fun c => ?_)
  · exact q _ (congrArg some (if_pos (V.int.inj (of_decide_eq_true c))))
  · exact q _ (congrArg some (if_neg fun z => of_decide_eq_false (Bool.eq_false_iff.mpr c) (congrArg V.int z)))
def sgn : List Str := ["+", "-", "*", "/", "mod", "min", "max", "<", "="]
def spCalc (C : Addr) : Sp := fun vs H Q E => ∃ (k : Nat) (s : Str) (i j : Int), vs = [.str s, .int i, .int j] ∧ sgn[k]? = some s ∧ InR i ∧ InR j ∧ (∀ n, opI k i j = some n → Q (.int (wrap n)) H) ∧ (opI k i j = none → E (.ref C) none H)
theorem calc_of (T : Txt w K mg a) {k : Nat} {s : Str} {i j : Int} {f : Addr × FuncData} {x : Str} {st : Stmt} (F : Fun K x x st f.1 f.2) (b : Binds K f.2 ["a", "b"] []) (G : FnOk P w K mg base (L2.CX P w) 1 f.1 f.2 ["a", "b"] (spOp a.TrapError k)) (ho : KDct K w a.OPS s (.ref f.1))
    (hi : InR i) (hj : InR j) {cdv : Value} {A : Around} {outer : List Env} {sh : Shared} {H : Hp} {Q : VK} {E : XK} (hr : Room 1 (A.deeper (envOfC "calculate" (defScope s_calculate) sh.heap.objs.size a.calculate.1 cdv)))
    (q : ∀ n, opI k i j = some n → Q (.int (wrap n)) H) (e : opI k i j = none → E (.ref a.TrapError) none H) :
    ∃ t, PSs (cxOf (L2.CX P w) P w K mg base ["sign", "a", "b", "operation"] "calculate" (defScope s_calculate) a.calculate.1 cdv A outer sh H E) (defBody s_calculate) t ∧ t { nx := fun _ H' => Q .non H', rt := Q } (start ["sign", "a", "b", "operation"] [.str s, .int i, .int j]) H := by
  have nd := sc_calculate.nd
  have G_wrapped : FnOk P w K mg base CX0 1 a.wrapped.1 a.wrapped.2 ["n"] spWrapped := ok_wrapped T
  refine ⟨_, (pss_cons (ps_set (i := 3) nd rfl (Or.inl rfl) (pe_ix ix_kdict (pe_glob (v := .ref a.OPS) rfl T.gOP rfl) (pv 0) (fun _ _ => rfl)))
  (pss_one (ps_ret (pe_call G_wrapped (hr.mono (by decide)) rfl T.wrapped.g T.wrapped.F.kp T.wrapped.b .nil pass0 (pa_cons (pe_callL (i := 3) G hr rfl (.inl rfl) F.kp b .nil (passes_call (takes_of rfl rfl rfl rfl) (fun _ _ _ _ h => h)) (pa_cons (pv 1) (pa_cons (pv 2) pa_nil))) pa_nil))))), ?_⟩
  exact ⟨_, rfl, a.OPS, s, _, rfl, rfl, ho, rfl, _, rfl, _, rfl, i, j, rfl, hi, hj, fun n en => ⟨n, rfl, q n en⟩, e⟩
theorem ok_calculate (T : Txt w K mg a) : FnOk P w K mg base (L2.CX P w) 2 a.calculate.1 a.calculate.2 ["sign", "a", "b"] (spCalc a.TrapError) := by
  refine T.calculate.F.okX sc_calculate (fun vs H Q E h => ?_) (fun cdv A outer s H vs Q E hr h => ?_)
  · obtain ⟨k, s, i, j, rfl, _⟩ := h
    rfl
  obtain ⟨k, s, i, j, rfl, hk, hi, hj, q, e⟩ := h
  match k, hk, q, e with
  | 0, hk, q, e =>
    obtain rfl : ("+" : Str) = _ := Option.some.inj hk
    exact calc_of T T.added.F T.added.b (ok_added T) T.o_added hi hj hr q e
  | 1, hk, q, e =>
    obtain rfl : ("-" : Str) = _ := Option.some.inj hk
    exact calc_of T T.subtracted.F T.subtracted.b (ok_subtracted T) T.o_subtracted hi hj hr q e
  | 2, hk, q, e =>
    obtain rfl : ("*" : Str) = _ := Option.some.inj hk
    exact calc_of T T.multiplied.F T.multiplied.b (ok_multiplied T) T.o_multiplied hi hj hr q e
  | 3, hk, q, e =>
    obtain rfl : ("/" : Str) = _ := Option.some.inj hk
    exact calc_of T T.quotient.F T.quotient.b (ok_quotient T) T.o_quotient hi hj hr q e
  | 4, hk, q, e =>
    obtain rfl : ("mod" : Str) = _ := Option.some.inj hk
    exact calc_of T T.remainder.F T.remainder.b (ok_remainder T) T.o_remainder hi hj hr q e
  | 5, hk, q, e =>
    obtain rfl : ("min" : Str) = _ := Option.some.inj hk
    exact calc_of T T.smaller.F T.smaller.b (ok_smaller T) T.o_smaller hi hj hr q e
  | 6, hk, q, e =>
    obtain rfl : ("max" : Str) = _ := Option.some.inj hk
    exact calc_of T T.larger.F T.larger.b (ok_larger T) T.o_larger hi hj hr q e
  | 7, hk, q, e =>
    obtain rfl : ("<" : Str) = _ := Option.some.inj hk
    exact calc_of T T.is_less.F T.is_less.b (ok_is_less T) T.o_is_less hi hj hr q e
  | 8, hk, q, e =>
    obtain rfl : ("=" : Str) = _ := Option.some.inj hk
    exact calc_of T T.is_equal.F T.is_equal.b (ok_is_equal T) T.o_is_equal hi hj hr q e
  | _ + 9, hk, _, _ => exact absurd hk (by simp [sgn])

/-! ### the law's own defs -/
def StAt (H : Hp) (st c : Addr) : Prop := ∃ (ns : List Int) (z : Int), H st = some (.lst [.ref c, .int z]) ∧ H c = some (.lst (ns.map V.int))
theorem StAt.ne {H : Hp} {st c : Addr} (h : StAt H st c) : st ≠ c := by
  obtain ⟨ns, z, h1, h2⟩ := h
  refine ne_of h1 h2 fun e => ?_
  cases ns with
  | nil => cases e
  | cons x r => cases e
def Go (st c : Addr) (H H' : Hp) : Prop := (∀ b o, b ≠ st → b ≠ c → H b = some o → H' b = some o) ∧ StAt H' st c
theorem Go.trans {st c : Addr} {H H1 H2 : Hp} (x : Go st c H H1) (y : Go st c H1 H2) : Go st c H H2 := ⟨fun b o h1 h2 e => y.1 b o h1 h2 (x.1 b o h1 h2 e), y.2⟩
theorem same_new {H : Hp} {p : Addr} (h : H p = none) (o : HO) : Same H (upd H p o) := fun b u q => by rw [upd_ne (ne_of_none q h)]; exact q
theorem StAt.keep {H H' : Hp} {st c : Addr} (h : StAt H st c) (k : Same H H') : StAt H' st c := by
  obtain ⟨ns, z, h1, h2⟩ := h
  exact ⟨ns, z, k _ _ h1, k _ _ h2⟩
theorem Go.same {st c : Addr} {H H1 : Hp} (h : StAt H st c) (k : Same H H1) : Go st c H H1 := ⟨fun b o _ _ e => k b o e, h.keep k⟩
theorem ifF {c : Bool} {A B : Prop} (h : c = false) (q : B) : if c = true then A else B := by rw [h]; exact iteF q
theorem ifT {c : Bool} {A B : Prop} (h : c = true) (q : A) : if c = true then A else B := by rw [h]; exact iteT q
theorem int_at {ns : List Int} {i : Nat} {y : V} (h : (ns.map V.int)[i]? = some y) : i < ns.length ∧ ∃ u, y = V.int u := by
  rw [List.getElem?_map] at h
  cases e : ns[i]? with
  | none => rw [e] at h; cases h
  | some u =>
    rw [e] at h
    exact ⟨(List.getElem?_eq_some_iff.mp e).1, u, (Option.some.inj h).symm⟩
def spState (K : PySem.W.Frag) : Sp := fun vs H Q _ => ∃ (p : Addr) (ns : List Int), vs = [.ref p] ∧ SqL K H p (ns.map V.int) ∧ ns.length ≤ 63 ∧ ∀ H' st c, Same H H' → H st = none → H c = none → StAt H' st c → Q (.ref st) H'
theorem ok_law_state (T : Txt w K mg a) : FnOk P w K mg base CX0 1 a.law_state.1 a.law_state.2 ["script"] (spState K) := by
  refine T.law_state.F.ok sc_law_state (fun vs H Q E h => ?_) (fun cdv A outer s H vs Q E hr h => ?_)
  · obtain ⟨p, ns, rfl, _⟩ := h
    rfl
  obtain ⟨p, ns, rfl, hS, h63, q⟩ := h
  have nd := sc_law_state.nd
  refine ⟨_, (pss_cons (ps_set (i := 1) nd rfl (Or.inl rfl) pe_int)
  (pss_cons (ps_for PassesOwn.never rfl (pi_list (pv 0)) (pg_name (i := 2) nd rfl (Or.inl rfl)) (pss_one (ps_set (i := 1) nd rfl (Or.inl rfl) (pe_op op_mod (pe_callTy call_int1 (by rfl) T.int (by decide +kernel) (pa_cons (pe_op op_add (pe_op op_mul (pv 1) pe_int) (pv 2)) pa_nil)) pe_int))))
  (pss_one (ps_ret (pe_lst (pa_cons (pe_lc (own := [("cell", 2)]) (g := gName 2) (tt := tYes) rfl nd (pi_list (pv 0)) (blkOk_by (N := ["script", "seed", "cell"]) (sc := defScope s_law_state) (by decide +kernel)) (fun _ _ _ _ _ => (pg_name (i := 2) nd rfl (Or.inl rfl))) (fun _ _ _ _ _ => pts_nil) (fun _ _ _ _ _ => (pe_callB call_abs (by rfl) T.abs (by decide +kernel) (pa_cons (pe_callTy call_int1 (by rfl) T.int (by decide +kernel) (pa_cons (pv 2) pa_nil)) pa_nil)))) (pa_cons (pe_op op_add (pv 1) pe_int) pa_nil))))))), ?_⟩
  refine ⟨_, rfl, p, rfl, ⟨_, hS⟩, for_list (K := K) (a := p) (xs := ns.map V.int) (fun i σ H' => H' = H ∧ ∃ (z : Int) (v : Option V), σ = [some (.ref p), some (.int z), v]) ⟨rfl, 7, none, rfl⟩ (fun i σ H' _ h => by rw [h.1]; exact hS) ?_ ?_⟩
  · rintro i y σ H' hi ⟨rfl, z, v, rfl⟩
    obtain ⟨_, u, rfl⟩ := int_at hi
    exact ⟨_, rfl, _, _, rfl, rfl, .inr (by decide), _, rfl, _, _, rfl, rfl, .inl ⟨_, rfl, _, _, rfl, rfl, (by show (0 : Int) < 1000003; decide), rfl, _, _, rfl⟩⟩
  · rintro σ H' ⟨rfl, z, v, rfl⟩
    refine ⟨_, rfl, p, rfl, ⟨_, hS⟩, fun D hD => lc_list (K := K) (a := p) (xs := ns.map V.int) (fun i H1 => ∃ acc : List Int, H1 = upd H' D (.lst (acc.map V.int)) ∧ acc.length = i) ⟨[], rfl, rfl⟩ (fun i H1 _ h => ?_) ?_ ?_⟩
    · obtain ⟨acc, rfl, _⟩ := h
      exact (same_new hD _).seq hS
    · rintro i y H1 hi ⟨acc, rfl, hl⟩
      obtain ⟨hi63, u, rfl⟩ := int_at hi
      refine ⟨rfl, _, rfl, .inl ⟨_, rfl, _, rfl, _, upd_same, ?_, acc ++ [if u < 0 then -u else u], ?_, ?_⟩⟩
      · rw [List.length_map]; exact small1000 (by omega)
      · rw [List.map_append, upd_upd]; rfl
      · rw [List.length_append, hl]; rfl
    · rintro H1 ⟨acc, rfl, _⟩
      refine ⟨_, rfl, _, _, rfl, rfl, (by show 2 ≤ sizeLine; decide), fun st hst => ?_⟩
      have hst0 : H' st = none := (same_new hD _).free hst
      refine q _ st D ((same_new hD _).trans (same_new hst _)) hst0 hD ⟨acc, z + 1, upd_same, ?_⟩
      rw [upd_ne (ne_of_none upd_same hst)]
      exact upd_same
def spDraw : Sp := fun vs H Q _ => ∃ (st c : Addr) (m : Int), vs = [.ref st, .int m] ∧ StAt H st c ∧ 0 < m ∧ m < 1099511627776 ∧ ∀ H' n, Go st c H H' → 0 ≤ n → n < m → Q (.int n) H'
theorem ok_law_draw (T : Txt w K mg a) : FnOk P w K mg base CX0 1 a.law_draw.1 a.law_draw.2 ["state", "many"] spDraw := by
  refine T.law_draw.F.ok sc_law_draw (fun vs H Q E h => ?_) (fun cdv A outer s H vs Q E hr h => ?_)
  · obtain ⟨st, c, m, rfl, _⟩ := h
    rfl
  obtain ⟨st, c, m, rfl, hSt, h0, hm, q⟩ := h
  have nd := sc_law_draw.nd
  have hne := hSt.ne
  obtain ⟨ns, z, h1, h2⟩ := hSt
  refine ⟨_, (pss_cons (ps_set (i := 2) nd rfl (Or.inl rfl) (pe_ix ix_list (pv 0) pe_int (fun _ _ => rfl)))
  (pss_cons (ps_while PassesOwn.never (PW.pt (pw_and (pt_cmpR op_gt (pe_callB call_len_seq (by rfl) T.len PySem.boot_len (pa_cons (pv 2) pa_nil)) pe_int (nomark _)) (pw_and1 (pt_cmpR op_eq (pe_ix ix_list (pv 2) pe_int (fun _ _ => rfl)) pe_int (nomark _))))) (pss_one (ps_expr (pe_bm PySem.F.plainAttrs_list PySem.F.slot_list_pop PySem.F.type_list_pop mt_popAt (pv 2) (pa_cons pe_int pa_nil)))))
  (pss_cons (ps_if (pt_cmpR op_gt (pe_callB call_len_seq (by rfl) T.len PySem.boot_len (pa_cons (pv 2) pa_nil)) pe_int (nomark _)) (pss_cons (ps_set (i := 3) nd rfl (Or.inl rfl) (pe_ix ix_list (pv 2) pe_int (fun _ _ => rfl)))
  (pss_cons (ps_asg (pe_op op_fdivW (pv 3) (pv 1)) (pg_sub (pv 2) pe_int set_list))
  (pss_one (ps_ret (pe_op op_mod (pe_callTy call_int1 (by rfl) T.int (by decide +kernel) (pa_cons (pv 3) pa_nil)) (pv 1)))))) pss_nil)
  (pss_cons (ps_set (i := 4) nd rfl (Or.inl rfl) (pe_op op_mod (pe_callTy call_int1 (by rfl) T.int (by decide +kernel) (pa_cons (pe_op op_add (pe_op op_mul (pe_ix ix_list (pv 0) pe_int (fun _ _ => rfl)) pe_int) pe_int) pa_nil)) pe_int))
  (pss_cons (ps_asg (pv 4) (pg_sub (pv 0) pe_int set_list))
  (pss_one (ps_ret (pe_op op_mod (pe_callTy call_int1 (by rfl) T.int (by decide +kernel) (pa_cons (pe_op op_fdiv (pv 4) pe_int) pa_nil)) (pv 1))))))))), ?_⟩
  refine ⟨_, rfl, st, _, _, _, rfl, rfl, SqL.of h1, rfl, ?_⟩
  refine ⟨fun k σ H' => ∃ ns' : List Int, σ = [some (.ref st), some (.int m), some (.ref c), none, none] ∧ k = ns'.length ∧ H' st = some (.lst [.ref c, .int z]) ∧ H' c = some (.lst (ns'.map V.int)) ∧ (∀ b o, b ≠ st → b ≠ c → H b = some o → H' b = some o), ⟨ns.length, ns, rfl, rfl, h1, h2, fun _ _ _ _ e => e⟩, ?_⟩
  rintro k σ H' ⟨ns', rfl, rfl, g1, g2, g3⟩
  have fin : ∀ (ns2 : List Int) (z2 : Int) (H2 : Hp), H2 st = some (.lst [.ref c, .int z2]) → H2 c = some (.lst (ns2.map V.int)) → (∀ b o, b ≠ st → b ≠ c → H' b = some o → H2 b = some o) → Go st c H H2 := fun ns2 z2 H2 e1 e2 e3 => ⟨fun b o n1 n2 e => e3 b o n1 n2 (g3 b o n1 n2 e), ns2, z2, e1, e2⟩
  refine ⟨_, rfl, c, _, rfl, .inl (SqL.of g2), _, _, rfl, rfl, _, rfl, ?_⟩
  cases ns' with
  | nil =>
    refine ifF (by rw [List.map_nil]; decide) ?_
    refine ifF rfl ?_
    refine ⟨_, rfl, c, _, rfl, .inl (SqL.of g2), _, _, rfl, rfl, _, rfl, ?_⟩
    refine ifF (by rw [List.map_nil]; decide) ?_
    refine ⟨_, rfl, st, _, _, _, rfl, rfl, SqL.of g1, rfl, _, _, rfl, rfl, .inr (by decide), _, _, rfl, rfl, .inl ⟨_, rfl, _, _, rfl, rfl, (by show (0 : Int) < 2147483647; decide), ?_⟩⟩
    refine ⟨_, rfl, _, rfl, st, _, _, _, rfl, rfl, g1, rfl, ?_⟩
    refine ⟨_, rfl, _, _, rfl, rfl, (by constructor <;> decide), .inl ⟨_, rfl, _, rfl, _, _, rfl, rfl, h0, ?_⟩⟩
    refine q _ _ (fin [] _ _ upd_same ?_ fun b o n1 _ e => ?_) (Int.emod_nonneg _ (by omega)) (Int.emod_lt_of_pos _ h0)
    · rw [upd_ne hne.symm]; exact g2
    · rw [upd_ne n1]; exact e
  | cons x r =>
    refine ifT (by rw [List.length_map]; exact decide_eq_true (by simp)) ?_
    refine ⟨_, rfl, c, _, _, _, rfl, rfl, SqL.of g2, atI_nat (j := 0) rfl, rfl, _, rfl, ?_⟩
    refine ite2 (fun _ => ?_) (fun _ => ?_)
    · refine ⟨fun σ' H2 => ∃ ns2 : List Int, σ' = [some (.ref st), some (.int m), some (.ref c), none, none] ∧ ns2.length = r.length ∧ H2 st = some (.lst [.ref c, .int z]) ∧ H2 c = some (.lst (ns2.map V.int)) ∧ (∀ b o, b ≠ st → b ≠ c → H b = some o → H2 b = some o), ?_, ?_⟩
      · rintro σ' H2 ⟨ns2, e1, e2, e3⟩
        exact ⟨r.length, by rw [List.length_cons]; omega, ns2, e1, e2.symm, e3⟩
      · refine ⟨_, rfl, .inl ⟨rfl, _, SqL.of g2⟩, c, _, _, 0, _, rfl, rfl, g2, by decide, by decide, ?_, rfl, ?_⟩
        · rw [List.length_map, List.length_cons]
          unfold seqIndex?
          simp
        · refine ⟨r, rfl, rfl, ?_, upd_same, fun b o n1 n2 e => ?_⟩
          · rw [upd_ne hne]; exact g1
          · rw [upd_ne n2]; exact g3 b o n1 n2 e
    · refine ⟨_, rfl, c, _, rfl, .inl (SqL.of g2), _, _, rfl, rfl, _, rfl, ?_⟩
      refine ifT (by rw [List.length_map]; exact decide_eq_true (by simp)) ?_
      refine ⟨_, rfl, c, _, _, _, rfl, rfl, SqL.of g2, atI_nat (j := 0) rfl, ?_⟩
      refine ⟨_, rfl, _, rfl, _, _, rfl, rfl, wide_div (b := 40) h0 (by omega) (by decide) (by decide), ?_⟩
      refine ⟨_, rfl, c, _, _, 0, rfl, rfl, g2, by rw [List.length_map, List.length_cons]; simp [ixN], ?_⟩
      refine ⟨_, rfl, .inl ⟨_, rfl, _, rfl, _, _, rfl, rfl, h0, ?_⟩⟩
      refine q _ _ (fin (x / m :: r) z _ ?_ upd_same fun b o _ n2 e => ?_) (Int.emod_nonneg _ (by omega)) (Int.emod_lt_of_pos _ h0)
      · rw [upd_ne hne]; exact g1
      · rw [upd_ne n2]; exact e
def spPick : Sp := fun vs H Q _ => ∃ (st c r : Addr) (xs : List V), vs = [.ref st, .ref r] ∧ StAt H st c ∧ H r = some (.lst xs) ∧ r ≠ st ∧ r ≠ c ∧ 0 < xs.length ∧ xs.length ≤ 1000 ∧ ∀ H' x, Go st c H H' → x ∈ xs → Q x H'
theorem ok_law_pick (T : Txt w K mg a) : FnOk P w K mg base CX0 2 a.law_pick.1 a.law_pick.2 ["state", "row"] spPick := by
  refine T.law_pick.F.ok sc_law_pick (fun vs H Q E h => ?_) (fun cdv A outer s H vs Q E hr h => ?_)
  · obtain ⟨st, c, r, xs, rfl, _⟩ := h
    rfl
  obtain ⟨st, c, r, xs, rfl, hSt, hx, n1, n2, l0, l1, q⟩ := h
  have G_law_draw := ok_law_draw (P := P) (w := w) (base := base) T
  refine ⟨_, (pss_one (ps_ret (pe_ix ix_list (pv 1) (pe_call G_law_draw (hr.mono (by decide)) rfl T.law_draw.g T.law_draw.F.kp T.law_draw.b .nil pass0 (pa_cons (pv 0) (pa_cons (pe_callB call_len_seq (by rfl) T.len PySem.boot_len (pa_cons (pv 1) pa_nil)) pa_nil))) (fun _ _ => rfl)))), ?_⟩
  refine ⟨_, rfl, _, rfl, _, rfl, r, _, rfl, .inl (SqL.of hx), st, c, _, rfl, hSt, by omega, by omega, fun H' n g h0 h1 => ?_⟩
  have hk : n.toNat < xs.length := by omega
  have ek : n = ((n.toNat : Nat) : Int) := by omega
  refine ⟨r, xs, n, xs[n.toNat], rfl, rfl, SqL.of (g.1 _ _ n1 n2 hx), ?_, q _ _ g (List.getElem_mem hk)⟩
  have e : atI xs ((n.toNat : Nat) : Int) = some xs[n.toNat] := atI_nat (List.getElem?_eq_getElem hk)
  rw [← ek] at e
  exact e
def spNumber : Sp := fun vs H Q _ => ∃ (st c : Addr), vs = [.ref st] ∧ StAt H st c ∧ ∀ H' n, Go st c H H' → InR n → Q (.int n) H'
theorem ok_law_number (T : Txt w K mg a) : FnOk P w K mg base CX0 3 a.law_number.1 a.law_number.2 ["state"] spNumber := by
  refine T.law_number.F.ok sc_law_number (fun vs H Q E h => ?_) (fun cdv A outer s H vs Q E hr h => ?_)
  · obtain ⟨st, c, rfl, _⟩ := h
    rfl
  obtain ⟨st, c, rfl, hSt, q⟩ := h
  have G_law_draw := ok_law_draw (P := P) (w := w) (base := base) T
  have G_law_pick := ok_law_pick (P := P) (w := w) (base := base) T
  have nd := sc_law_number.nd
  refine ⟨_, (pss_cons (ps_set (i := 1) nd rfl (Or.inl rfl) (pe_lst (pa_cons pe_int (pa_cons (pe_un un_neg pe_int) (pa_cons pe_int (pa_cons (pe_un un_neg pe_int) (pa_cons pe_int pa_nil)))))))
  (pss_cons (ps_if (pt_cmpR op_eq (pe_call G_law_draw (hr.mono (by decide)) rfl T.law_draw.g T.law_draw.F.kp T.law_draw.b .nil pass0 (pa_cons (pv 0) (pa_cons pe_int pa_nil))) pe_int (nomark _)) (pss_one (ps_ret (pe_call G_law_pick (hr.mono (by decide)) rfl T.law_pick.g T.law_pick.F.kp T.law_pick.b .nil pass0 (pa_cons (pv 0) (pa_cons (pv 1) pa_nil))))) pss_nil)
  (pss_one (ps_ret (pe_op op_sub (pe_call G_law_draw (hr.mono (by decide)) rfl T.law_draw.g T.law_draw.F.kp T.law_draw.b .nil pass0 (pa_cons (pv 0) (pa_cons pe_int pa_nil))) pe_int))))), ?_⟩
  refine ⟨_, rfl, _, rfl, (by show 5 ≤ sizeLine; decide), fun p hp => ?_⟩
  have hSt1 := hSt.keep (same_new hp (.lst [.int 0, .int (-1), .int 2147483647, .int (-2147483648), .int 65536]))
  have g0 := Go.same hSt (same_new hp (.lst [.int 0, .int (-1), .int 2147483647, .int (-2147483648), .int 65536]))
  obtain ⟨_, _, a1, a2⟩ := id hSt
  have n1 : p ≠ st := (ne_of_none a1 hp).symm
  have n2 : p ≠ c := (ne_of_none a2 hp).symm
  refine ⟨_, rfl, st, c, _, rfl, hSt1, by decide, by decide, fun H2 n g2 h0 h1 => ?_⟩
  refine ⟨rfl, _, rfl, ?_⟩
  refine ite2 (fun _ => ?_) (fun _ => ?_)
  · refine ⟨_, rfl, _, rfl, st, c, p, _, rfl, g2.2, g2.1 _ _ n1 n2 upd_same, n1, n2, by decide, by decide, fun H3 x g3 hx => ?_⟩
    have g := (g0.trans g2).trans g3
    simp only [List.mem_cons, List.not_mem_nil, or_false] at hx
    rcases hx with rfl | rfl | rfl | rfl | rfl <;> exact q _ _ g (by unfold InR; omega)
  · refine ⟨_, rfl, st, c, _, rfl, g2.2, by decide, by decide, fun H3 x g3 h0 h1 => ?_⟩
    exact ⟨_, _, rfl, rfl, q _ _ ((g0.trans g2).trans g3) (by unfold InR; omega)⟩
end
end K6

namespace K6
open PySem PySem.Spec PyProof.Rows L2
/-! ### words -/
abbrev iv (ns : List Int) : List V := ns.map V.int
def NN : Nat := 1000000
theorem iv_get {ns : List Int} {i : Nat} {y : V} (h : (iv ns)[i]? = some y) : ∃ n, ns[i]? = some n ∧ y = .int n := by
  rw [List.getElem?_map] at h
  cases e : ns[i]? with
  | none => rw [e] at h; cases h
  | some u => rw [e] at h; exact ⟨u, rfl, (Option.some.inj h).symm⟩
theorem get_iv {ns : List Int} {i : Nat} {n : Int} (h : ns[i]? = some n) : (iv ns)[i]? = some (.int n) := by rw [List.getElem?_map, h]; rfl
theorem iv_len (ns : List Int) : (iv ns).length = ns.length := List.length_map _
def VecsAt (K : PySem.W.Frag) (H : Hp) : List Addr → List (List Int) → Prop
  | [], [] => True
  | a :: as, x :: xs => H a = some (.lst (iv x)) ∧ VecsAt K H as xs
  | _, _ => False
theorem seq_same {K : PySem.W.Frag} {H H' : Hp} {p : Addr} {xs : List V} (s : Same H H') (h : SqL K H p xs) : SqL K H' p xs := s.seq h
theorem VecsAt.same {K : PySem.W.Frag} {H H' : Hp} (s : Same H H') : ∀ {as : List Addr} {xss : List (List Int)}, VecsAt K H as xss → VecsAt K H' as xss
  | [], [], _ => trivial
  | _ :: _, _ :: _, ⟨a, b⟩ => ⟨s _ _ a, b.same s⟩
  | [], _ :: _, h => h.elim
  | _ :: _, [], h => h.elim
theorem VecsAt.one {K : PySem.W.Frag} {H : Hp} {as : List Addr} {x : List Int} (h : VecsAt K H as [x]) : ∃ a, as = [a] ∧ SqL K H a (iv x) ∧ H a = some (.lst (iv x)) := by
  cases as with
  | nil => exact h.elim
  | cons a r =>
    cases r with
    | nil => exact ⟨a, rfl, SqL.of h.1, h.1⟩
    | cons b r => exact h.2.elim
theorem VecsAt.two {K : PySem.W.Frag} {H : Hp} {as : List Addr} {x y : List Int} (h : VecsAt K H as [x, y]) : ∃ a b, as = [a, b] ∧ SqL K H a (iv x) ∧ SqL K H b (iv y) ∧ H a = some (.lst (iv x)) ∧ H b = some (.lst (iv y)) := by
  cases as with
  | nil => exact h.elim
  | cons a r =>
    obtain ⟨b, rfl, i, j⟩ := VecsAt.one h.2
    exact ⟨a, b, rfl, SqL.of h.1, i, h.1, j⟩
/-- one turn of a comprehension: the new list has one more item -/
theorem tick {H1 H H4 : Hp} {D : Addr} {A B : List V} {y : V} (sm : Same H1 H) (n1 : H1 D = none) (hD : H D = some (.lst A)) (s4 : Same H H4) (e : A ++ [y] = B) (hn : B.length ≤ NN) :
    ∃ acc, H4 D = some (.lst acc) ∧ acc.length < sizeLine ∧ (Same H1 (upd H4 D (.lst (acc ++ [y]))) ∧ (upd H4 D (.lst (acc ++ [y]))) D = some (.lst B)) := by
  subst e
  refine ⟨A, s4 _ _ hD, ?_, fun b o eb => ?_, upd_same⟩
  · rw [List.length_append, List.length_singleton] at hn
    exact Nat.lt_of_lt_of_le hn (by show NN ≤ sizeLine; decide)
  · rw [upd_ne (ne_of_none eb n1)]
    exact s4 _ _ (sm _ _ eb)
theorem mapR (F : Nat → Int) (i : Nat) : iv ((List.range i).map F) ++ [V.int (F i)] = iv ((List.range (i + 1)).map F) := by simp [iv, List.range_succ]
theorem flatR (G : Nat → List Int) (i : Nat) : iv ((List.range i).flatMap G) ++ iv (G i) = iv ((List.range (i + 1)).flatMap G) := by simp [iv, List.range_succ]
/-- an inner walk, whatever is done for an item -/
theorem in_it {J : It} {n : Nat} {G : Hp → Prop} {Y : Nat → Hp → V → Hp → Prop} {H1 : Hp} {Qd : Hp → Prop} {B : V → Hp → (Hp → Prop) → Prop} (w : Walk J n G Y) (Pv : Nat → Hp → Prop) (h0 : Pv 0 H1) (hG : ∀ i H, i ≤ n → Pv i H → G H)
    (hs : ∀ i x H H', i < n → Pv i H → Y i H x H' → B x H' (Pv (i + 1))) (hd : ∀ H, Pv n H → Qd H) :
    ∃ W : Nat → Nat → Hp → Prop, (∃ m, W 0 m H1) ∧ ∀ i m H, W i m H → (J.stop i H ∧ Qd H) ∨ (J.go i H ∧ ∃ Nx : Hp → Prop, (∀ H', Nx H' → ∃ m', m' < m ∧ W (i + 1) m' H') ∧ ∀ x H', J.yld i H x H' → B x H' Nx) := by
  refine ⟨fun i m H => m = n - i ∧ i ≤ n ∧ Pv i H, ⟨n, by simp, Nat.zero_le _, h0⟩, ?_⟩
  rintro i m H ⟨rfl, hi, p⟩
  have q := hG i H hi p
  by_cases lt : i < n
  · exact .inr ⟨w.goes i H lt q, Pv (i + 1), fun H' p' => ⟨n - (i + 1), by omega, rfl, lt, p'⟩, fun x H' y => hs i x H H' lt p (w.yields i H x H' lt q y)⟩
  · obtain rfl : i = n := by omega
    exact .inl ⟨w.stops H q, hd H p⟩
def Y3 (xs ys zs : List V) : Nat → Hp → V → Hp → Prop := fun i H v H' => ∃ T x y z, v = .ref T ∧ H T = none ∧ H' = upd H T (.tup [x, y, z]) ∧ xs[i]? = some x ∧ ys[i]? = some y ∧ zs[i]? = some z
theorem walk_z3 {K : PySem.W.Frag} {a b c : Addr} {xs ys zs : List V} {n : Nat} (h1 : xs.length = n) (h2 : ys.length = n) (h3 : zs.length = n) : Walk (ZN.It3 K a b c) n (fun H => SqL K H a xs ∧ SqL K H b ys ∧ SqL K H c zs) (Y3 xs ys zs) := by
  refine ⟨fun i _ hi q => ⟨xs, ys, zs, xs[i], ys[i], zs[i], q.1, q.2.1, q.2.2, by simp, by simp, by simp⟩, fun _ q => ⟨xs, ys, zs, q.1, q.2.1, q.2.2, by omega⟩, fun i H v H' _ q y => ?_⟩
  obtain ⟨T, x1, x2, x3, e1, e2, e3, e4, e5, e6⟩ := y
  exact ⟨T, x1, x2, x3, e1, e2, e3, e4 xs q.1, e5 ys q.2.1, e6 zs q.2.2⟩
def Y4 (xs ys zs ws : List V) : Nat → Hp → V → Hp → Prop := fun i H v H' => ∃ T x y z u, v = .ref T ∧ H T = none ∧ H' = upd H T (.tup [x, y, z, u]) ∧ xs[i]? = some x ∧ ys[i]? = some y ∧ zs[i]? = some z ∧ ws[i]? = some u
theorem walk_z4 {K : PySem.W.Frag} {a b c d : Addr} {xs ys zs ws : List V} {n : Nat} (h1 : xs.length = n) (h2 : ys.length = n) (h3 : zs.length = n) (h4 : ws.length = n) : Walk (ZN.It4 K a b c d) n (fun H => SqL K H a xs ∧ SqL K H b ys ∧ SqL K H c zs ∧ SqL K H d ws) (Y4 xs ys zs ws) := by
  refine ⟨fun i _ hi q => ⟨xs, ys, zs, ws, xs[i], ys[i], zs[i], ws[i], q.1, q.2.1, q.2.2.1, q.2.2.2, by simp, by simp, by simp, by simp⟩, fun _ q => ⟨xs, ys, zs, ws, q.1, q.2.1, q.2.2.1, q.2.2.2, by omega⟩, fun i H v H' _ q y => ?_⟩
  obtain ⟨T, x1, x2, x3, x4, e1, e2, e3, e4, e5, e6, e7⟩ := y
  exact ⟨T, x1, x2, x3, x4, e1, e2, e3, e4 xs q.1, e5 ys q.2.1, e6 zs q.2.2.1, e7 ws q.2.2.2⟩
/-! rules that name the block's K -/
section
variable {X : Cx} {K : PySem.W.Frag}
theorem call_lenK (hK : X.K = K) : CallR X (.builtin "len") (fun xs H Q => ∃ p ys, xs = [.ref p] ∧ (SqL K H p ys ∨ SqT K H p ys) ∧ Q (.int (ys.length : Nat)) H) := hK ▸ call_len_seq
theorem ix_tupK (hK : X.K = K) : IxR X (rIxT K) := hK ▸ ix_tup
theorem ix_listK (hK : X.K = K) : IxR X (rIxL K) := hK ▸ ix_list
theorem sl_listK (hK : X.K = K) : SlR X (rSlL K) := hK ▸ sl_list
theorem cr_sumK (hK : X.K = K) (hc : X.calm = true) : CallR X (.builtin "sum") (rSum K) := hK ▸ cr_sum hc
theorem pg_tupK {es : List Expr} {k : Nat} {pos : Pos} {t : TGs} {n : Nat} (hK : X.K = K) (hc : X.calm = true) (h : PGs X es t) (hn : (assignEach es X.env).length = n := by rfl) (hst : (assignEach es X.env).findIdx? (·.1) = none := by rfl) : PG X (.Tuple es k pos) (gTup K n t) := hK ▸ pg_tup hc h hn hst
theorem pi_listK {tg l : Expr} {tl : TE} (hK : X.K = K) (hl : PE X l tl) : PI X tg l (iList K tl) := hK ▸ pi_list hl
end
/-! ### what the instructions give -/
def at_ (ls : List Int) (i : Nat) : Int := ls.getD i 0
def pre (ls : List Int) (i : Nat) : Int := (ls.take i).sum
theorem at_some {ls : List Int} {i : Nat} {n : Int} (h : ls[i]? = some n) : at_ ls i = n := by unfold at_; rw [List.getD_eq_getElem?_getD, h]; rfl
theorem at_get {ls : List Int} {i : Nat} (h : i < ls.length) : ls[i]? = some (at_ ls i) := by
  rw [List.getElem?_eq_getElem h, at_some (List.getElem?_eq_getElem h)]
theorem pre_succ {ls : List Int} {i : Nat} (h : i < ls.length) : pre ls (i + 1) = pre ls i + at_ ls i := by
  unfold pre
  rw [List.take_add_one, at_get h, List.sum_append]
  simp
def rng (lo n : Int) : List Int := (List.range n.toNat).map fun (k : Nat) => lo + (k : Int)
theorem rng_len (lo n : Int) : (rng lo n).length = n.toNat := by simp [rng]
/-- lengths: not negative, few -/
structure Lens (ls : List Int) : Prop where
  nn : ∀ i, 0 ≤ at_ ls i
  sm : ls.sum ≤ NN
  ln : ls.length ≤ NN
theorem Lens.mem {ls : List Int} (h : Lens ls) : ∀ l ∈ ls, 0 ≤ l := fun l m => by
  obtain ⟨i, e⟩ := List.getElem?_of_mem m
  rw [← at_some e]; exact h.nn i
theorem sum_nn {ls : List Int} (h : ∀ l ∈ ls, 0 ≤ l) : 0 ≤ ls.sum := by
  induction ls with
  | nil => exact Int.le_refl _
  | cons x r ih =>
    rw [List.sum_cons]
    have := h x (List.mem_cons_self ..)
    have := ih fun y m => h y (List.mem_cons_of_mem _ m)
    omega
theorem pre_le {ls : List Int} (h : ∀ l ∈ ls, 0 ≤ l) (i : Nat) : 0 ≤ pre ls i ∧ pre ls i ≤ ls.sum := by
  have e : ls.sum = (ls.take i).sum + (ls.drop i).sum := by rw [← List.sum_append, List.take_append_drop]
  have a := sum_nn (ls := ls.take i) fun y m => h y (List.mem_of_mem_take m)
  have b := sum_nn (ls := ls.drop i) fun y m => h y (List.mem_of_mem_drop m)
  unfold pre
  omega
theorem Lens.prf {ls : List Int} (h : Lens ls) (i : Nat) : 0 ≤ pre ls i ∧ pre ls i ≤ NN := by
  have := pre_le h.mem i
  have := h.sm
  omega
theorem Lens.seg {ls : List Int} (h : Lens ls) {i : Nat} (hi : i < ls.length) : 0 ≤ at_ ls i ∧ pre ls i + at_ ls i ≤ NN := by
  have a := h.nn i
  have b := h.prf (i + 1)
  rw [pre_succ hi] at b
  omega
end K6

namespace K6
open PySem PySem.Spec PyProof.Rows L2
def spIn (TE : Addr) (pr : V → List (List Int) → Prop) (res : V → List (List Int) → Option (List Int)) (K : PySem.W.Frag) : Sp := fun vs H Q E => ∃ (ex : V) (p : Addr) (as : List Addr) (xss : List (List Int)), vs = [ex, .ref p] ∧ SqL K H p (as.map V.ref) ∧ VecsAt K H as xss ∧ pr ex xss ∧
  (∀ out, res ex xss = some out → ∀ (H' : Hp) (q : Addr), Same H H' → H q = none → H' q = some (.lst (iv out)) → Q (.ref q) H') ∧ (res ex xss = none → ∀ H', Same H H' → E (.ref TE) none H')
theorem spIn.len {TE : Addr} {pr : V → List (List Int) → Prop} {res : V → List (List Int) → Option (List Int)} {K : PySem.W.Frag} {vs : List V} {H : Hp} {Q : VK} {E : XK} (h : spIn TE pr res K vs H Q E) : vs.length = 2 := by
  obtain ⟨_, _, _, _, rfl, _⟩ := h
  rfl
theorem flat_len {G : Nat → List Int} {ls : List Int} (hL : Lens ls) (hG : ∀ j, j < ls.length → (G j).length = (at_ ls j).toNat) : ∀ i, i ≤ ls.length → ((List.range i).flatMap G).length = (pre ls i).toNat
  | 0, _ => by simp [pre]
  | i + 1, h => by
    have ih := flat_len hL hG i (by omega)
    have a := hL.prf i
    have b := hL.seg (i := i) (by omega)
    rw [List.range_succ, List.flatMap_append, List.length_append, ih, pre_succ (by omega)]
    simp only [List.flatMap_cons, List.flatMap_nil, List.append_nil]
    rw [hG i (by omega)]
    omega
theorem flat_pre {ls : List Int} (hL : Lens ls) {lo : Nat → Int} {i : Nat} (h : i ≤ ls.length) : ((List.range i).flatMap fun i => rng (lo i) (at_ ls i)).length = (pre ls i).toNat := flat_len hL (fun j _ => rng_len _ _) i h
theorem rep_pre {ls : List Int} (hL : Lens ls) {i : Nat} (h : i ≤ ls.length) : ((List.range i).flatMap fun i => List.replicate (at_ ls i).toNat (i : Int)).length = (pre ls i).toNat := flat_len hL (fun j _ => List.length_replicate) i h
section
variable {P : Program} {w : World} {K : PySem.W.Frag} {mg : Str → Option Value} {base : Heap} {a : Ad}
def spStarts (K : PySem.W.Frag) : Sp := fun vs H Q _ => ∃ (p : Addr) (ls : List Int), vs = [.ref p] ∧ SqL K H p (iv ls) ∧ ls.length ≤ NN ∧ ∀ (H' : Hp) (q : Addr), Same H H' → H q = none → H' q = some (.lst (iv ((List.range ls.length).map (pre ls)))) → Q (.ref q) H'
theorem ok_starts_of (T : Txt w K mg a) : FnOk P w K mg base CX0 1 a.starts_of.1 a.starts_of.2 ["lengths"] (spStarts K) := by
  refine T.starts_of.F.ok sc_starts_of (fun vs H Q E h => ?_) (fun cdv A outer s H vs Q E hr h => ?_)
  · obtain ⟨_, _, rfl, _⟩ := h
    rfl
  obtain ⟨p, ls, rfl, hp, hl, q⟩ := h
  have nd := sc_starts_of.nd
  refine ⟨_, (pss_cons (ps_set (i := 1) nd rfl (Or.inl rfl) (pe_lst pa_nil))
  (pss_cons (ps_set (i := 2) nd rfl (Or.inl rfl) pe_int)
  (pss_cons (ps_for PassesOwn.never rfl (pi_list (pv 0)) (pg_name (i := 3) nd rfl (Or.inl rfl)) (pss_cons (ps_expr (pe_bm PySem.F.plainAttrs_list PySem.F.slot_list_append PySem.F.type_list_append mt_append (pv 1) (pa_cons (pv 2) pa_nil)))
  (pss_one (ps_aug (i := 2) nd rfl (Or.inl rfl) (pv 3) ip_add))))
  (pss_one (ps_ret (pv 1)))))), ?_⟩
  refine ⟨(by show 0 ≤ sizeLine; decide), fun r nr => ?_⟩
  refine ⟨_, rfl, p, rfl, ⟨_, (same_new nr _).seq hp⟩, for_list (K := K) (a := p) (xs := iv ls) (fun i σ H1 => ∃ v3 : Option V, σ = [some (.ref p), some (.ref r), some (.int (pre ls i)), v3] ∧ Same H H1 ∧ H1 r = some (.lst (iv ((List.range i).map (pre ls))))) ⟨none, rfl, same_new nr _, upd_same⟩ (fun i σ H1 _ h => by obtain ⟨_, _, sm, _⟩ := h; exact sm.seq hp) ?_ ?_⟩
  · rintro i y σ H1 hi ⟨v3, rfl, sm, hr1⟩
    obtain ⟨n, hn, rfl⟩ := iv_get hi
    have il := (List.getElem?_eq_some_iff.mp hn).1
    refine ⟨_, rfl, .inl ⟨rfl, _, SqL.of hr1⟩, _, rfl, r, _, _, rfl, rfl, hr1, ?_, ?_⟩
    · rw [iv_len, List.length_map, List.length_range]
      exact Nat.lt_of_lt_of_le (Nat.lt_of_lt_of_le il hl) (by decide)
    refine ⟨_, rfl, _, rfl, _, _, rfl, rfl, some (.int n), ?_, fun b o eb => ?_, ?_⟩
    · rw [pre_succ il, at_some hn]; rfl
    · rw [upd_ne (ne_of_none eb nr)]; exact sm _ _ eb
    · rw [mapR]; exact upd_same
  · rintro σ H1 ⟨v3, rfl, sm, hr1⟩
    rw [iv_len] at hr1
    exact ⟨_, rfl, q H1 r sm nr hr1⟩
theorem ok_fill (T : Txt w K mg a) : FnOk P w K mg base (L2.CX P w) 1 a.fill.1 a.fill.2 ["extra", "inputs"] (spIn a.TrapError (fun ex xss => ∃ n v, ex = .int n ∧ xss = [v] ∧ v.length ≤ NN) (fun ex xss => match ex with | .int n => some ((xss.headD []).map fun _ => n) | _ => none) K) := by
  refine T.fill.F.okX sc_fill (fun vs H Q E h => h.len) (fun cdv A outer s H vs Q E hr h => ?_)
  obtain ⟨ex, p, as, xss, rfl, hp, hv, hpr, q, e⟩ := h
  have nd := sc_fill.nd
  obtain ⟨n, v, rfl, rfl, hv1⟩ := hpr
  obtain ⟨b, rfl, hb, hb'⟩ := hv.one
  refine ⟨_, (pss_one (ps_ret (pe_lc (own := [("_", 2)]) (g := gName 2) (tt := tYes) rfl nd (pi_list (pe_ix ix_list (pv 1) pe_int (fun _ _ => rfl))) (blkOk_by (N := ["extra", "inputs", "_"]) (sc := defScope s_fill) (by decide +kernel)) (fun _ _ _ _ _ => (pg_name (i := 2) nd rfl (Or.inl rfl))) (fun _ _ _ _ _ => pts_nil) (fun _ _ _ _ _ => (pv 0))))), ?_⟩
  refine ⟨_, rfl, p, _, _, _, rfl, rfl, hp, rfl, b, rfl, ⟨_, hb⟩, fun D nD => lc_it (walk_list (K := K) (a := b) (xs := iv v)) (fun i H1 => Same H H1 ∧ H1 D = some (.lst (iv ((v.take i).map fun _ => n)))) ⟨same_new nD _, by rw [List.take_zero]; exact upd_same⟩ (fun i H1 _ h => h.1.seq hb) ?_ ?_⟩
  · rintro i x H1 H2 hi ⟨sm, hD⟩ ⟨rfl, hx⟩
    obtain ⟨m, hm, rfl⟩ := iv_get hx
    refine ⟨rfl, _, rfl, tick sm nD hD (fun _ _ e => e) ?_ ?_⟩
    · rw [List.take_add_one, hm]; simp [iv]
    · rw [iv_len, List.length_map, List.length_take]; omega
  · rintro H1 ⟨sm, hD⟩
    rw [iv_len, List.take_length] at hD
    exact q _ rfl H1 D sm nD hD
theorem ok_flags (T : Txt w K mg a) : FnOk P w K mg base (L2.CX P w) 1 a.flags.1 a.flags.2 ["_", "inputs"] (spIn a.TrapError (fun _ xss => ∃ v, xss = [v] ∧ v.length ≤ NN) (fun _ xss => some ((xss.headD []).map fun x => if x = 0 then 0 else 1)) K) := by
  refine T.flags.F.okX sc_flags (fun vs H Q E h => h.len) (fun cdv A outer s H vs Q E hr h => ?_)
  obtain ⟨ex, p, as, xss, rfl, hp, hv, hpr, q, e⟩ := h
  have nd := sc_flags.nd
  obtain ⟨v, rfl, hv1⟩ := hpr
  obtain ⟨b, rfl, hb, hb'⟩ := hv.one
  refine ⟨_, (pss_one (ps_ret (pe_lc (own := [("item", 2)]) (g := gName 2) (tt := tYes) rfl nd (pi_list (pe_ix ix_list (pv 1) pe_int (fun _ _ => rfl))) (blkOk_by (N := ["_", "inputs", "item"]) (sc := defScope s_flags) (by decide +kernel)) (fun _ _ _ _ _ => (pg_name (i := 2) nd rfl (Or.inl rfl))) (fun _ _ _ _ _ => pts_nil) (fun _ _ _ _ _ => (pe_ifExp (pt_cmpR op_ne (pv 2) pe_int (nomark _)) pe_int pe_int))))), ?_⟩
  refine ⟨_, rfl, p, _, _, _, rfl, rfl, hp, rfl, b, rfl, ⟨_, hb⟩, fun D nD => lc_it (walk_list (K := K) (a := b) (xs := iv v)) (fun i H1 => Same H H1 ∧ H1 D = some (.lst (iv ((v.take i).map fun x => if x = 0 then 0 else 1)))) ⟨same_new nD _, by rw [List.take_zero]; exact upd_same⟩ (fun i H1 _ h => h.1.seq hb) ?_ ?_⟩
  · rintro i x H1 H2 hi ⟨sm, hD⟩ ⟨rfl, hx⟩
    obtain ⟨m, hm, rfl⟩ := iv_get hx
    have fin : ∀ k : Int, k = (if m = 0 then 0 else 1) → _ := fun k ek => tick (y := .int k) (B := iv ((v.take (i + 1)).map fun x => if x = 0 then 0 else 1)) sm nD hD (fun _ _ e => e) (by rw [List.take_add_one, hm, ek]; simp [iv]) (by rw [iv_len, List.length_map, List.length_take]; omega)
    refine ⟨rfl, _, rfl, rfl, _, rfl, ?_⟩
    by_cases c : m = 0
    · refine ifF (by rw [c]; decide) ?_
      exact fin 0 (by rw [if_pos c])
    · refine ifT (by simpa using c) ?_
      exact fin 1 (by rw [if_neg c])
  · rintro H1 ⟨sm, hD⟩
    rw [iv_len, List.take_length] at hD
    exact q _ rfl H1 D sm nD hD
theorem ok_take (T : Txt w K mg a) : FnOk P w K mg base (L2.CX P w) 1 a.take_.1 a.take_.2 ["_", "inputs"] (spIn a.TrapError (fun _ xss => ∃ v ix, xss = [v, ix] ∧ ix.length ≤ NN ∧ ∀ k ∈ ix, 0 ≤ k ∧ k < v.length) (fun _ xss => some ((xss.getD 1 []).map fun k => at_ (xss.headD []) k.toNat)) K) := by
  refine T.take_.F.okX sc_take (fun vs H Q E h => h.len) (fun cdv A outer s H vs Q E hr h => ?_)
  obtain ⟨ex, p, as, xss, rfl, hp, hv, hpr, q, e⟩ := h
  have nd := sc_take.nd
  obtain ⟨v, ix, rfl, hl, hk⟩ := hpr
  obtain ⟨b, c, rfl, hb, hc, hb', hc'⟩ := hv.two
  refine ⟨_, (pss_cons (ps_asg (pv 1) (pg_unl rfl (pgs_cons (pg_name (i := 2) nd rfl (Or.inr rfl)) (pgs_cons (pg_name (i := 3) nd rfl (Or.inl rfl)) pgs_nil))))
  (pss_one (ps_ret (pe_lc (own := [("index", 4)]) (g := gName 4) (tt := tYes) rfl nd (pi_list (pv 3)) (blkOk_by (N := ["_", "inputs", "vector", "indexes", "index"]) (sc := defScope s_take) (by decide +kernel)) (fun _ _ _ _ _ => (pg_name (i := 4) nd rfl (Or.inl rfl))) (fun _ _ _ _ _ => pts_nil) (fun _ _ _ _ _ => (pe_ix (ix_listK (K := K) rfl) (pv 2) (pv 4) (fun _ _ => rfl))))))), ?_⟩
  refine ⟨_, rfl, p, _, rfl, hp, rfl, _, _, rfl, _, _, rfl, rfl, _, rfl, c, rfl, ⟨_, hc⟩, fun D nD => lc_it (walk_list (K := K) (a := c) (xs := iv ix)) (fun i H1 => Same H H1 ∧ H1 D = some (.lst (iv ((ix.take i).map fun k => at_ v k.toNat)))) ⟨same_new nD _, by rw [List.take_zero]; exact upd_same⟩ (fun i H1 _ h => h.1.seq hc) ?_ ?_⟩
  · rintro i x H1 H2 hi ⟨sm, hD⟩ ⟨rfl, hx⟩
    obtain ⟨m, hm, rfl⟩ := iv_get hx
    obtain ⟨m0, m1⟩ := hk m (List.mem_of_getElem? hm)
    obtain ⟨j, rfl⟩ := Int.eq_ofNat_of_zero_le m0
    refine ⟨rfl, _, rfl, _, rfl, b, _, _, _, rfl, rfl, sm.seq hb, atI_nat (get_iv (at_get (by omega))), tick sm nD hD (fun _ _ e => e) ?_ ?_⟩
    · rw [List.take_add_one, hm]; simp [iv]
    · rw [iv_len, List.length_map, List.length_take]; omega
  · rintro H1 ⟨sm, hD⟩
    rw [iv_len, List.take_length] at hD
    exact q _ rfl H1 D sm nD hD
theorem ok_join (T : Txt w K mg a) : FnOk P w K mg base (L2.CX P w) 1 a.join_.1 a.join_.2 ["_", "inputs"] (spIn a.TrapError (fun _ xss => ∃ v u, xss = [v, u] ∧ v.length + u.length ≤ NN) (fun _ xss => some (xss.headD [] ++ xss.getD 1 [])) K) := by
  refine T.join_.F.okX sc_join (fun vs H Q E h => h.len) (fun cdv A outer s H vs Q E hr h => ?_)
  obtain ⟨ex, p, as, xss, rfl, hp, hv, hpr, q, e⟩ := h
  have nd := sc_join.nd
  obtain ⟨v, u, rfl, hl⟩ := hpr
  obtain ⟨b, c, rfl, hb, hc, hb', hc'⟩ := hv.two
  refine ⟨_, (pss_one (ps_ret (pe_op op_cat (pe_ix ix_list (pv 1) pe_int (fun _ _ => rfl)) (pe_ix ix_list (pv 1) pe_int (fun _ _ => rfl))))), ?_⟩
  refine ⟨_, rfl, p, _, _, _, rfl, rfl, hp, rfl, _, rfl, p, _, _, _, rfl, rfl, hp, rfl, b, c, _, _, rfl, rfl, hb', hc', ?_, fun d nd' => ?_⟩
  · rw [iv_len, iv_len]; exact Nat.le_trans hl (by decide)
  · exact q _ rfl _ d (same_new nd' _) nd' (by rw [upd_same]; simp [iv])
theorem ok_count (T : Txt w K mg a) : FnOk P w K mg base (L2.CX P w) 1 a.count_.1 a.count_.2 ["_", "inputs"] (spIn a.TrapError (fun _ xss => ∃ ls, xss = [ls] ∧ Lens ls) (fun _ xss => some ((List.range (xss.headD []).length).flatMap fun i => rng 0 (at_ (xss.headD []) i))) K) := by
  refine T.count_.F.okX sc_count (fun vs H Q E h => h.len) (fun cdv A outer s H vs Q E hr h => ?_)
  obtain ⟨ex, p, as, xss, rfl, hp, hv, hpr, q, e⟩ := h
  have nd := sc_count.nd
  obtain ⟨ls, rfl, hL⟩ := hpr
  obtain ⟨b, rfl, hb, hb'⟩ := hv.one
  refine ⟨_, (pss_one (ps_ret (pe_lc2 (own := [("length", 2), ("k", 3)]) (vs1 := [3]) (g := gName 2) (tt := tYes) (g1 := gName 3) (tt1 := tYes) rfl nd (pi_list (pe_ix ix_list (pv 1) pe_int (fun _ _ => rfl))) (blkOk_by (N := ["_", "inputs", "length", "k"]) (sc := defScope s_count) (by decide +kernel)) (by decide) (fun _ _ _ _ _ => (pg_name (i := 2) nd rfl (Or.inl rfl))) (fun _ _ _ _ _ => pts_nil) (fun _ _ _ _ _ => (pi_range1 rfl T.range (pa_cons (pv 2) pa_nil))) (fun _ _ _ _ _ => (pg_name (i := 3) nd rfl (Or.inl rfl))) (fun _ _ _ _ _ => pts_nil) (fun _ _ _ _ _ => (pv 3))))), ?_⟩
  refine ⟨_, rfl, p, _, _, _, rfl, rfl, hp, rfl, b, rfl, ⟨_, hb⟩, fun D nD => in_it (walk_list (K := K) (a := b) (xs := iv ls)) (fun i H1 => Same H H1 ∧ H1 D = some (.lst (iv ((List.range i).flatMap fun i => rng 0 (at_ ls i))))) ⟨same_new nD _, upd_same⟩ (fun i H1 _ h => h.1.seq hb) ?_ ?_⟩
  · rintro i x H1 H2 hi ⟨sm, hD⟩ ⟨rfl, hx⟩
    obtain ⟨m, hm, rfl⟩ := iv_get hx
    have il := (List.getElem?_eq_some_iff.mp hm).1
    have sg := hL.seg il
    rw [at_some hm] at sg
    have p0 := hL.prf i
    refine ⟨rfl, _, rfl, _, rfl, by omega, by unfold NN at *; omega, in_it (walk_range (lo := 0) (n := m.toNat)) (fun j H3 => Same H H3 ∧ H3 D = some (.lst (iv ((List.range i).flatMap fun i => rng 0 (at_ ls i)) ++ iv ((List.range j).map fun (k : Nat) => 0 + (k : Int))))) ⟨sm, by rw [hD]; simp [iv]⟩ (fun _ _ _ _ => trivial) ?_ ?_⟩
    · rintro j x H3 H4 hj ⟨sm3, hD3⟩ ⟨rfl, rfl⟩
      refine ⟨rfl, _, rfl, tick sm3 nD hD3 (fun _ _ e => e) ?_ ?_⟩
      · rw [List.append_assoc, ← mapR]
      · rw [List.length_append, iv_len, iv_len, List.length_map, List.length_range, flat_pre hL (by omega)]; omega
    · rintro H3 ⟨sm3, hD3⟩
      refine ⟨sm3, ?_⟩
      rw [hD3, ← flatR, at_some hm]
      rfl
  · rintro H1 ⟨sm, hD⟩
    rw [iv_len] at hD
    exact q _ rfl H1 D sm nD hD
theorem ok_repeat (T : Txt w K mg a) : FnOk P w K mg base (L2.CX P w) 1 a.repeat_.1 a.repeat_.2 ["_", "inputs"] (spIn a.TrapError (fun _ xss => ∃ ls, xss = [ls] ∧ Lens ls) (fun _ xss => some ((List.range (xss.headD []).length).flatMap fun i => List.replicate (at_ (xss.headD []) i).toNat (i : Int))) K) := by
  refine T.repeat_.F.okX sc_repeat (fun vs H Q E h => h.len) (fun cdv A outer s H vs Q E hr h => ?_)
  obtain ⟨ex, p, as, xss, rfl, hp, hv, hpr, q, e⟩ := h
  have nd := sc_repeat.nd
  obtain ⟨ls, rfl, hL⟩ := hpr
  obtain ⟨b, rfl, hb, hb'⟩ := hv.one
  refine ⟨_, (pss_one (ps_ret (pe_lc2 (own := [("at", 2), ("length", 3), ("_", 0)]) (vs1 := [0]) (tt := tYes) (g1 := gName 0) (tt1 := tYes) rfl nd (pi_enum (by rfl) T.enumerate (pa_cons (pe_ix ix_list (pv 1) pe_int (fun _ _ => rfl)) pa_nil)) (blkOk_by (N := ["_", "inputs", "at", "length"]) (sc := defScope s_repeat) (by decide +kernel)) (by decide) (fun _ _ _ _ _ => (pg_tupK (K := K) (n := 2) rfl rfl (pgs_cons (pg_name (i := 2) nd rfl (Or.inl rfl)) (pgs_cons (pg_name (i := 3) nd rfl (Or.inl rfl)) pgs_nil)))) (fun _ _ _ _ _ => pts_nil) (fun _ _ _ _ _ => (pi_range1 rfl T.range (pa_cons (pv 3) pa_nil))) (fun _ _ _ _ _ => (pg_name (i := 0) nd rfl (Or.inl rfl))) (fun _ _ _ _ _ => pts_nil) (fun _ _ _ _ _ => (pv 2))))), ?_⟩
  refine ⟨_, rfl, p, _, _, _, rfl, rfl, hp, rfl, b, _, rfl, hb, fun D nD => in_it (walk_enum (K := K) (a := b) (xs := iv ls)) (fun i H1 => Same H H1 ∧ H1 D = some (.lst (iv ((List.range i).flatMap fun i => List.replicate (at_ ls i).toNat (i : Int))))) ⟨same_new nD _, upd_same⟩ (fun i H1 _ h => h.1.seq hb) ?_ ?_⟩
  · rintro i x H1 H2 hi ⟨sm, hD⟩ ⟨t, _, _, rfl, nt, rfl, e1, hx⟩
    cases e1
    obtain ⟨m, hm, rfl⟩ := iv_get hx
    have il := (List.getElem?_eq_some_iff.mp hm).1
    have sg := hL.seg il
    rw [at_some hm] at sg
    have p0 := hL.prf i
    have smt := same_new nt (.tup [.int (i : Nat), .int m])
    refine ⟨t, _, rfl, .inl (.inl upd_same), rfl, _, _, rfl, _, _, rfl, rfl, rfl, _, rfl, _, rfl, by omega, by unfold NN at *; omega, in_it (walk_range (lo := 0) (n := m.toNat)) (fun j H3 => Same H H3 ∧ H3 D = some (.lst (iv ((List.range i).flatMap fun i => List.replicate (at_ ls i).toNat (i : Int)) ++ iv (List.replicate j (i : Int))))) ⟨sm.trans smt, by rw [smt _ _ hD]; simp [iv]⟩ (fun _ _ _ _ => trivial) ?_ ?_⟩
    · rintro j x H3 H4 hj ⟨sm3, hD3⟩ ⟨rfl, rfl⟩
      refine ⟨rfl, _, rfl, tick sm3 nD hD3 (fun _ _ e => e) ?_ ?_⟩
      · rw [List.append_assoc]; simp [iv, List.replicate_succ']
      · rw [List.length_append, iv_len, iv_len, List.length_replicate, rep_pre hL (by omega)]; omega
    · rintro H3 ⟨sm3, hD3⟩
      refine ⟨sm3, ?_⟩
      rw [hD3, ← flatR, at_some hm]
  · rintro H1 ⟨sm, hD⟩
    rw [iv_len] at hD
    exact q _ rfl H1 D sm nD hD
end
end K6

namespace K6
open PySem PySem.Spec PyProof.Rows L2
/-- the marked, the others, ahead of i -/
def ones (v : List Int) (i : Nat) : Int := (((v.take i).filter fun x => decide (x ≠ 0)).length : Nat)
def zers (v : List Int) (i : Nat) : Int := (((v.take i).filter fun x => decide (x = 0)).length : Nat)
theorem ones_succ {v : List Int} {i : Nat} {m : Int} (h : v[i]? = some m) : ones v (i + 1) = if m = 0 then ones v i else ones v i + 1 := by
  unfold ones
  rw [List.take_add_one, h, List.filter_append]
  by_cases c : m = 0 <;> simp [c]
theorem zers_succ {v : List Int} {i : Nat} {m : Int} (h : v[i]? = some m) : zers v (i + 1) = if m = 0 then zers v i + 1 else zers v i := by
  unfold zers
  rw [List.take_add_one, h, List.filter_append]
  by_cases c : m = 0 <;> simp [c]
theorem iteT' {c : Bool} {A B : Prop} (h : c = true) (q : A) : if c = true then A else B := by rw [h]; exact q
theorem iteF' {c : Bool} {A B : Prop} (h : c = false) (q : B) : if c = true then A else B := by rw [h]; exact q
def weaveI (v : List Int) (i : Nat) : Int := if at_ v i = 0 then ones v v.length + zers v i else ones v i
section
variable {P : Program} {w : World} {K : PySem.W.Frag} {mg : Str → Option Value} {base : Heap} {a : Ad}
theorem ok_where (T : Txt w K mg a) : FnOk P w K mg base (L2.CX P w) 1 a.where_.1 a.where_.2 ["extra", "inputs"] (spIn a.TrapError (fun ex xss => ∃ b v, ex = .bl b ∧ xss = [v] ∧ v.length ≤ NN) (fun ex xss => match ex with | .bl b => some ((List.range (xss.headD []).length).flatMap fun i => if decide (at_ (xss.headD []) i ≠ 0) = b then [(i : Int)] else []) | _ => none) K) := by
  refine T.where_.F.okX sc_where (fun vs H Q E h => h.len) (fun cdv A outer s H vs Q E hr h => ?_)
  obtain ⟨ex, p, as, xss, rfl, hp, hv, hpr, q, e⟩ := h
  have nd := sc_where.nd
  obtain ⟨bb, v, rfl, rfl, hl⟩ := hpr
  obtain ⟨b, rfl, hb, hb'⟩ := hv.one
  refine ⟨_, (pss_one (ps_ret (pe_lc (own := [("index", 2), ("item", 3)]) rfl nd (pi_enum (by rfl) T.enumerate (pa_cons (pe_ix ix_list (pv 1) pe_int (fun _ _ => rfl)) pa_nil)) (blkOk_by (N := ["extra", "inputs", "index", "item"]) (sc := defScope s_where) (by decide +kernel)) (fun _ _ _ _ _ => (pg_tupK (K := K) (n := 2) rfl rfl (pgs_cons (pg_name (i := 2) nd rfl (Or.inl rfl)) (pgs_cons (pg_name (i := 3) nd rfl (Or.inl rfl)) pgs_nil)))) (fun _ _ _ _ _ => (pts_one (pt_cmpR op_eq (pe_cmpR op_ne (pv 3) pe_int (nomark _)) (pv 0) (nomark _)))) (fun _ _ _ _ _ => (pv 2))))), ?_⟩
  refine ⟨_, rfl, p, _, _, _, rfl, rfl, hp, rfl, b, _, rfl, hb, fun D nD => lc_it (walk_enum (K := K) (a := b) (xs := iv v)) (fun i H1 => Same H H1 ∧ H1 D = some (.lst (iv ((List.range i).flatMap fun i => if decide (at_ v i ≠ 0) = bb then [(i : Int)] else [])))) ⟨same_new nD _, upd_same⟩ (fun i H1 _ h => h.1.seq hb) ?_ ?_⟩
  · rintro i x H1 H2 hi ⟨sm, hD⟩ ⟨t, _, _, rfl, nt, rfl, e1, hx⟩
    cases e1
    obtain ⟨m, hm, rfl⟩ := iv_get hx
    have il := (List.getElem?_eq_some_iff.mp hm).1
    have smt := same_new nt (.tup [.int (i : Nat), .int m])
    have len : ∀ j, ((List.range j).flatMap fun i => if decide (at_ v i ≠ 0) = bb then [(i : Int)] else []).length ≤ j := fun j => by
      induction j with
      | zero => simp
      | succ j ih =>
        rw [List.range_succ, List.flatMap_append, List.length_append]
        simp only [List.flatMap_cons, List.flatMap_nil, List.append_nil]
        have : (if decide (at_ v j ≠ 0) = bb then [(j : Int)] else []).length ≤ 1 := by split <;> simp
        omega
    refine ⟨t, _, rfl, .inl (.inl upd_same), rfl, _, _, rfl, _, _, rfl, rfl, rfl, _, rfl, rfl, _, rfl, rfl, _, rfl, ?_⟩
    have tst : (decide ((V.bl !decide (V.int m = V.int 0)) = V.bl bb)) = decide (decide (at_ v i ≠ 0) = bb) := by
      rw [at_some hm]
      by_cases c : m = 0 <;> cases bb <;> simp [c]
    by_cases c : decide (at_ v i ≠ 0) = bb
    · refine ifT (by rw [tst]; exact decide_eq_true c) ?_
      refine ⟨_, rfl, tick (sm.trans smt) nD (smt _ _ hD) (fun _ _ e => e) ?_ ?_⟩
      · rw [← flatR, if_pos c]; rfl
      · rw [iv_len]; have := len (i + 1); omega
    · refine ifF (by rw [tst]; exact decide_eq_false c) ?_
      refine ⟨sm.trans smt, ?_⟩
      rw [← flatR, if_neg c]
      simpa using smt _ _ hD
  · rintro H1 ⟨sm, hD⟩
    rw [iv_len] at hD
    exact q _ rfl H1 D sm nD hD
theorem ok_weave (T : Txt w K mg a) : FnOk P w K mg base (L2.CX P w) 1 a.weave.1 a.weave.2 ["_", "inputs"] (spIn a.TrapError (fun _ xss => ∃ v, xss = [v] ∧ v.length ≤ NN) (fun _ xss => some ((List.range (xss.headD []).length).map (weaveI (xss.headD [])))) K) := by
  refine T.weave.F.okX sc_weave (fun vs H Q E h => h.len) (fun cdv A outer s H vs Q E hr h => ?_)
  obtain ⟨ex, p, as, xss, rfl, hp, hv, hpr, q, e⟩ := h
  have nd := sc_weave.nd
  obtain ⟨v, rfl, hl⟩ := hpr
  obtain ⟨b, rfl, hb, hb'⟩ := hv.one
  refine ⟨_, (pss_cons (ps_set (i := 2) nd rfl (Or.inl rfl) pe_int)
  (pss_cons (ps_set (i := 4) nd rfl (Or.inl rfl) (pe_callB call_len_seq (by rfl) T.len PySem.boot_len (pa_cons (pe_lc (own := [("item", 3)]) (g := gName 3) rfl nd (pi_list (pe_ix ix_list (pv 1) pe_int (fun _ _ => rfl))) (blkOk_by (N := ["_", "inputs", "marked", "item", "others", "numbers"]) (sc := defScope s_weave) (by decide +kernel)) (fun _ _ _ _ _ => (pg_name (i := 3) nd rfl (Or.inl rfl))) (fun _ _ _ _ _ => (pts_one (pt_cmpR op_ne (pv 3) pe_int (nomark _)))) (fun _ _ _ _ _ => (pv 3))) pa_nil)))
  (pss_cons (ps_set (i := 5) nd rfl (Or.inl rfl) (pe_lst pa_nil))
  (pss_cons (ps_for (L2.passes_of rfl) rfl (pi_list (pe_ix ix_list (pv 1) pe_int (fun _ _ => rfl))) (pg_name (i := 3) nd rfl (Or.inl rfl)) (pss_one (ps_if (pt_cmpR op_ne (pv 3) pe_int (nomark _)) (pss_cons (ps_expr (pe_bm PySem.F.plainAttrs_list PySem.F.slot_list_append PySem.F.type_list_append mt_append (pv 5) (pa_cons (pv 2) pa_nil)))
  (pss_one (ps_aug (i := 2) nd rfl (Or.inl rfl) pe_int ip_add))) (pss_cons (ps_expr (pe_bm PySem.F.plainAttrs_list PySem.F.slot_list_append PySem.F.type_list_append mt_append (pv 5) (pa_cons (pv 4) pa_nil)))
  (pss_one (ps_aug (i := 4) nd rfl (Or.inl rfl) pe_int ip_add))))))
  (pss_one (ps_ret (pv 5))))))), ?_⟩
  refine ⟨_, rfl, p, _, _, _, rfl, rfl, hp, rfl, b, rfl, ⟨_, hb⟩, fun D nD => lc_it (walk_list (K := K) (a := b) (xs := iv v)) (fun i H1 => Same H H1 ∧ H1 D = some (.lst (iv ((v.take i).filter fun x => decide (x ≠ 0))))) ⟨same_new nD _, by rw [List.take_zero]; exact upd_same⟩ (fun i H1 _ h => h.1.seq hb) ?_ ?_⟩
  · rintro i x H1 H2 hi ⟨sm, hD⟩ ⟨rfl, hx⟩
    obtain ⟨m, hm, rfl⟩ := iv_get hx
    refine ⟨rfl, _, rfl, rfl, _, rfl, ?_⟩
    by_cases c : m = 0
    · refine ifF (by rw [c]; decide) ⟨sm, ?_⟩
      rw [List.take_add_one, hm, List.filter_append]
      simpa [c] using hD
    · refine ifT (by simpa using c) ?_
      refine ⟨_, rfl, tick sm nD hD (fun _ _ e => e) ?_ ?_⟩
      · rw [List.take_add_one, hm, List.filter_append]; simp [iv, c]
      · rw [iv_len]; exact Nat.le_trans (List.length_filter_le _ _) (by rw [List.length_take]; omega)
  · rintro H1 ⟨sm, hD⟩
    rw [iv_len, List.take_length] at hD
    refine ⟨D, _, rfl, .inl (SqL.of hD), ?_⟩
    refine ⟨(by show 0 ≤ sizeLine; decide), fun r nr => ?_⟩
    have sr := same_new nr (.lst [])
    have r0 : H r = none := by
      cases z : H r with
      | none => rfl
      | some o => have := sm _ _ z; rw [this] at nr; cases nr
    have e0 : ((iv (v.filter fun x => decide (x ≠ 0))).length : Int) = ones v v.length := by rw [iv_len]; unfold ones; rw [List.take_length]
    refine ⟨_, rfl, p, _, _, _, rfl, rfl, sr.seq (sm.seq hp), rfl, b, rfl, ⟨_, sr.seq (sm.seq hb)⟩, for_list (K := K) (a := b) (xs := iv v) (fun i σ H2 => ∃ v3 : Option V, σ = [some ex, some (.ref p), some (.int (ones v i)), v3, some (.int (ones v v.length + zers v i)), some (.ref r)] ∧ Same H H2 ∧ H2 r = some (.lst (iv ((List.range i).map (weaveI v))))) ⟨none, ?_, sm.trans sr, upd_same⟩ (fun i σ H1 _ h => by obtain ⟨_, _, s, _⟩ := h; exact s.seq hb) ?_ ?_⟩
    · have z0 : ones v v.length + zers v 0 = ((iv (v.filter fun x => decide (x ≠ 0))).length : Int) := by rw [e0]; simp [zers]
      rw [z0]
      rfl
    · rintro i y σ H2 hi ⟨v3, rfl, s2, hr2⟩
      obtain ⟨m, hm, rfl⟩ := iv_get hi
      have il := (List.getElem?_eq_some_iff.mp hm).1
      have bound : (iv ((List.range i).map (weaveI v))).length < sizeLine := by
        rw [iv_len, List.length_map, List.length_range]
        exact Nat.lt_of_lt_of_le (Nat.lt_of_lt_of_le il hl) (by decide)
      have nxt : ∀ k : Int, k = weaveI v i → (Same H (upd H2 r (.lst (iv ((List.range i).map (weaveI v)) ++ [.int k]))) ∧ (upd H2 r (.lst (iv ((List.range i).map (weaveI v)) ++ [.int k]))) r = some (.lst (iv ((List.range (i + 1)).map (weaveI v))))) := fun k ek => by
        refine ⟨fun c o ec => ?_, ?_⟩
        · rw [upd_ne (ne_of_none ec r0)]; exact s2 _ _ ec
        · rw [upd_same, ek, mapR]
      refine ⟨_, rfl, rfl, _, rfl, ?_⟩
      have wi : weaveI v i = if m = 0 then ones v v.length + zers v i else ones v i := by unfold weaveI; rw [at_some hm]
      by_cases c : m = 0
      · refine ifF (by rw [c]; decide) ?_
        refine ⟨_, rfl, .inl ⟨rfl, _, SqL.of hr2⟩, _, rfl, r, _, _, rfl, rfl, hr2, bound, _, rfl, _, _, rfl, rfl, some (.int m), ?_, nxt _ (by rw [wi, if_pos c])⟩
        rw [ones_succ hm, zers_succ hm, if_pos c, if_pos c, ← Int.add_assoc]; rfl
      · refine ifT (by simpa using c) ?_
        refine ⟨_, rfl, .inl ⟨rfl, _, SqL.of hr2⟩, _, rfl, r, _, _, rfl, rfl, hr2, bound, _, rfl, _, _, rfl, rfl, some (.int m), ?_, nxt _ (by rw [wi, if_neg c])⟩
        rw [ones_succ hm, zers_succ hm, if_neg c, if_neg c]; rfl
    · rintro σ H2 ⟨v3, rfl, s2, hr2⟩
      rw [iv_len] at hr2
      exact ⟨_, rfl, q _ rfl H2 r s2 r0 hr2⟩
theorem ok_need_range (T : Txt w K mg a) : FnOk P w K mg base (L2.CX P w) 1 a.need_range.1 a.need_range.2 ["_", "inputs"] (spIn a.TrapError (fun _ xss => ∃ v, xss = [v] ∧ v.length ≤ NN) (fun _ xss => if ∀ x ∈ xss.headD [], 0 ≤ x ∧ x ≤ 1000 then some (xss.headD []) else none) K) := by
  refine T.need_range.F.okX sc_need_range (fun vs H Q E h => h.len) (fun cdv A outer s H vs Q E hr h => ?_)
  obtain ⟨ex, p, as, xss, rfl, hp, hv, hpr, q, e⟩ := h
  have nd := sc_need_range.nd
  obtain ⟨v, rfl, hl⟩ := hpr
  obtain ⟨b, rfl, hb, hb'⟩ := hv.one
  refine ⟨_, (pss_cons (ps_for (L2.passes_of rfl) rfl (pi_list (pe_ix ix_list (pv 1) pe_int (fun _ _ => rfl))) (pg_name (i := 2) nd rfl (Or.inl rfl)) (pss_one (ps_if (pt_not (pt_chain op_le op_le pe_int (pv 2) (pe_gv rfl T.limit))) (pss_one (ps_raise rfl (takes_of rfl rfl rfl rfl) (pmk_own PySem.F.excBase_ValueError T.xT T.gTrapError T.kT (raises_own T.bT T.tT) rfl))) pss_nil)))
  (pss_one (ps_ret (pe_callTy call_list_of (by rfl) T.list (by decide +kernel) (pa_cons (pe_ix ix_list (pv 1) pe_int (fun _ _ => rfl)) pa_nil))))), ?_⟩
  refine ⟨_, rfl, p, _, _, _, rfl, rfl, hp, rfl, b, rfl, ⟨_, hb⟩, for_list (K := K) (a := b) (xs := iv v) (fun i σ H1 => ∃ v2 : Option V, σ = [some ex, some (.ref p), v2] ∧ H1 = H ∧ ∀ x ∈ v.take i, 0 ≤ x ∧ x ≤ 1000) ⟨none, rfl, rfl, by simp⟩ (fun i σ H1 _ h => by obtain ⟨_, _, rfl, _⟩ := h; exact hb) ?_ ?_⟩
  · rintro i y σ H1 hi ⟨v2, rfl, rfl, all⟩
    obtain ⟨m, hm, rfl⟩ := iv_get hi
    have mem := List.mem_of_getElem? hm
    refine ⟨_, rfl, _, _, rfl, rfl, _, rfl, ?_⟩
    have bad : ¬ (0 ≤ m ∧ m ≤ 1000) → E (.ref a.TrapError) none H1 := fun c => e (if_neg fun z => c (z m mem)) H1 fun _ _ x => x
    by_cases c1 : 0 ≤ m
    · refine iteT' (decide_eq_true c1) ?_
      refine ⟨_, _, rfl, rfl, _, rfl, ?_⟩
      by_cases c2 : m ≤ 1000
      · refine ifF (by rw [decide_eq_true c2]; rfl) ?_
        refine ⟨some (.int m), rfl, rfl, fun x hx => ?_⟩
        rw [List.take_add_one, hm] at hx
        rcases List.mem_append.mp hx with hx | hx
        · exact all x hx
        · obtain rfl : x = m := by simpa using hx
          exact ⟨c1, c2⟩
      · exact ifT (by rw [decide_eq_false c2]; rfl) (bad fun z => c2 z.2)
    · refine iteF' (decide_eq_false c1) ?_
      exact ⟨_, rfl, ifT rfl (bad fun z => c1 z.1)⟩
  · rintro σ H1 ⟨v2, rfl, rfl, all⟩
    rw [iv_len, List.take_length] at all
    exact ⟨_, rfl, p, _, _, _, rfl, rfl, hp, rfl, b, _, rfl, .inl hb, fun l nl => q v (if_pos all) _ l (same_new nl _) nl upd_same⟩
end
end K6

namespace K6
open PySem PySem.Spec PyProof.Rows L2
/-! lists of numbers as data -/
def nsd (ns : List Int) : PyData := .list (ns.map .int)
theorem nsd_dp {K : PySem.W.Frag} {H : Hp} {p : Addr} {ns : List Int} (h : SqL K H p (iv ns)) : Dp K H (.ref p) (nsd ns) := by
  refine .lst h ?_
  clear h
  induction ns with
  | nil => exact .nil
  | cons n r ih => exact .cons (.int n) ih
theorem nsd_lay (ns : List Int) : (nsd ns).canLay0 = true := by
  show PyData.canLayAll0 (ns.map .int) = true
  induction ns with
  | nil => rfl
  | cons n r ih => exact ih
theorem nsd_dep (ns : List Int) : (nsd ns).depth ≤ 1 := by
  show PyData.depthAll (ns.map .int) + 1 ≤ 1
  have : PyData.depthAll (ns.map .int) = 0 := by
    induction ns with
    | nil => rfl
    | cons n r ih => show max 0 (PyData.depthAll (r.map .int)) = 0; rw [ih]; rfl
  omega
theorem nsd_shaped (ns : List Int) : SeqAt.shaped (nsd ns) = true := by
  unfold SeqAt.shaped
  rw [nsd_lay, decide_eq_true (Nat.le_trans (nsd_dep ns) (by decide))]
  rfl
theorem nsd_eqv : ∀ (ns ms : List Int), PyData.eqv (nsd ns) (nsd ms) = decide (ns = ms) := by
  intro ns ms
  show PyData.eqvAll (ns.map .int) (ms.map .int) = _
  induction ns generalizing ms with
  | nil => cases ms <;> simp [PyData.eqvAll]
  | cons n r ih =>
    cases ms with
    | nil => simp [PyData.eqvAll]
    | cons m t =>
      simp [PyData.eqvAll, PyData.eqv, ih]
      rfl
theorem seq_upd {K : PySem.W.Frag} {H : Hp} {p r : Addr} {xs : List V} {o : HO} (n : p ≠ r) (h : SqL K H p xs) : SqL K (upd H r o) p xs := by
  rcases h with (h | ⟨o', h⟩) | h
  · exact .inl (.inl (by rw [upd_ne n]; exact h))
  · exact .inl (.inr ⟨o', by rw [upd_ne n]; exact h⟩)
  · exact .inr h
theorem pre_get {ls : List Int} {i : Nat} (h : i < ls.length) : ((List.range ls.length).map (pre ls))[i]? = some (pre ls i) := by
  rw [List.getElem?_map, List.getElem?_range h]; rfl
section
variable {P : Program} {w : World} {K : PySem.W.Frag} {mg : Str → Option Value} {base : Heap} {a : Ad}
theorem ok_need_same (T : Txt w K mg a) : FnOk P w K mg base (L2.CX P w) 1 a.need_same.1 a.need_same.2 ["_", "inputs"] (spIn a.TrapError (fun _ xss => ∃ v u, xss = [v, u]) (fun _ xss => if xss.headD [] = xss.getD 1 [] then some (xss.headD []) else none) K) := by
  refine T.need_same.F.okX sc_need_same (fun vs H Q E h => h.len) (fun cdv A outer s H vs Q E hr h => ?_)
  obtain ⟨ex, p, as, xss, rfl, hp, hv, hpr, q, e⟩ := h
  have nd := sc_need_same.nd
  obtain ⟨v, u, rfl⟩ := hpr
  obtain ⟨b, c, rfl, hb, hc, hb', hc'⟩ := hv.two
  refine ⟨_, (pss_cons (ps_if (pt_cmpR (op_neD hr.units) (pe_ix ix_list (pv 1) pe_int (fun _ _ => rfl)) (pe_ix ix_list (pv 1) pe_int (fun _ _ => rfl)) (nomark _)) (pss_one (ps_raise rfl (takes_of rfl rfl rfl rfl) (pmk_own PySem.F.excBase_ValueError T.xT T.gTrapError T.kT (raises_own T.bT T.tT) rfl))) pss_nil)
  (pss_one (ps_ret (pe_callTy call_list_of (by rfl) T.list (by decide +kernel) (pa_cons (pe_ix ix_list (pv 1) pe_int (fun _ _ => rfl)) pa_nil))))), ?_⟩
  refine ⟨_, rfl, p, _, _, _, rfl, rfl, hp, rfl, _, rfl, p, _, _, _, rfl, rfl, hp, rfl, _, _, nsd_dp hb, nsd_dp hc, nsd_shaped _, nsd_shaped _, _, rfl, ?_⟩
  by_cases c1 : v = u
  · refine ifF (by rw [nsd_eqv, decide_eq_true c1]; rfl) ?_
    exact ⟨_, rfl, p, _, _, _, rfl, rfl, hp, rfl, b, _, rfl, .inl hb, fun l nl => q v (if_pos c1) _ l (same_new nl _) nl upd_same⟩
  · exact ifT (by rw [nsd_eqv, decide_eq_false c1]; rfl) (e (if_neg c1) H fun _ _ x => x)
theorem ok_place (T : Txt w K mg a) : FnOk P w K mg base (L2.CX P w) 2 a.place.1 a.place.2 ["_", "inputs"] (spIn a.TrapError (fun _ xss => ∃ ls ps, xss = [ls, ps] ∧ Lens ls ∧ ps.length = ls.length) (fun _ xss => if ∀ i < (xss.headD []).length, 0 ≤ at_ (xss.getD 1 []) i ∧ at_ (xss.getD 1 []) i < at_ (xss.headD []) i then some ((List.range (xss.headD []).length).map fun i => pre (xss.headD []) i + at_ (xss.getD 1 []) i) else none) K) := by
  refine T.place.F.okX sc_place (fun vs H Q E h => h.len) (fun cdv A outer s H vs Q E hr h => ?_)
  obtain ⟨ex, p, as, xss, rfl, hp, hv, hpr, q, e⟩ := h
  have nd := sc_place.nd
  have G_starts_of := ok_starts_of (P := P) (w := w) (base := base) T
  obtain ⟨ls, ps, rfl, hL, hlen⟩ := hpr
  obtain ⟨b, c, rfl, hb, hc, hb', hc'⟩ := hv.two
  refine ⟨_, (pss_cons (ps_asg (pv 1) (pg_unl rfl (pgs_cons (pg_name (i := 2) nd rfl (Or.inl rfl)) (pgs_cons (pg_name (i := 3) nd rfl (Or.inl rfl)) pgs_nil))))
  (pss_cons (ps_set (i := 4) nd rfl (Or.inl rfl) (pe_lst pa_nil))
  (pss_cons (ps_for (L2.passes_of rfl) rfl (ZN.pi_zip3 (by rfl) T.zip (pa_cons (pe_call G_starts_of (hr.mono (by omega)) rfl T.starts_of.g T.starts_of.F.kp T.starts_of.b .nil pass0 (pa_cons (pv 2) pa_nil)) (pa_cons (pv 2) (pa_cons (pv 3) pa_nil)))) (pg_tup rfl (pgs_cons (pg_name (i := 5) nd rfl (Or.inl rfl)) (pgs_cons (pg_name (i := 6) nd rfl (Or.inl rfl)) (pgs_cons (pg_name (i := 7) nd rfl (Or.inl rfl)) pgs_nil)))) (pss_cons (ps_if (pt_not (pt_chain op_le op_lt pe_int (pv 7) (pv 6))) (pss_one (ps_raise rfl (takes_of rfl rfl rfl rfl) (pmk_own PySem.F.excBase_ValueError T.xT T.gTrapError T.kT (raises_own T.bT T.tT) rfl))) pss_nil)
  (pss_one (ps_expr (pe_bm PySem.F.plainAttrs_list PySem.F.slot_list_append PySem.F.type_list_append mt_append (pv 4) (pa_cons (pe_op op_add (pv 5) (pv 7)) pa_nil))))))
  (pss_one (ps_ret (pv 4)))))), ?_⟩
  refine ⟨_, rfl, p, _, rfl, hp, rfl, _, _, rfl, _, _, rfl, rfl, (by show 0 ≤ sizeLine; decide), fun r nr => ?_⟩
  have s1 := same_new nr (.lst [])
  refine ⟨_, rfl, b, ls, rfl, s1.seq hb, hL.ln, fun H2 st s2 nst hst => ?_⟩
  have s02 := s1.trans s2
  have hst' : SqL K H2 st (iv ((List.range ls.length).map (pre ls))) := SqL.of hst
  have nrs : st ≠ r := (ne_of_none upd_same nst).symm
  have n0 : (iv ((List.range ls.length).map (pre ls))).length = ls.length := by rw [iv_len, List.length_map, List.length_range]
  refine ⟨_, rfl, _, rfl, st, b, c, _, _, _, rfl, hst', s02.seq hb, s02.seq hc, for_it (walk_z3 (K := K) (a := st) (b := b) (c := c) (xs := iv ((List.range ls.length).map (pre ls))) (ys := iv ls) (zs := iv ps) (n := ls.length) n0 (iv_len _) (by rw [iv_len]; exact hlen)) (fun i σ H3 => ∃ v5 v6 v7 : Option V, σ = [some ex, some (.ref p), some (.ref b), some (.ref c), some (.ref r), v5, v6, v7] ∧ Same H H3 ∧ SqL K H3 st (iv ((List.range ls.length).map (pre ls))) ∧ H3 r = some (.lst (iv ((List.range i).map fun i => pre ls i + at_ ps i))) ∧ ∀ j < i, 0 ≤ at_ ps j ∧ at_ ps j < at_ ls j) ⟨none, none, none, rfl, s02, hst', s2 _ _ upd_same, fun j hj => absurd hj (Nat.not_lt_zero _)⟩ (fun i σ H3 _ h => by obtain ⟨_, _, _, _, s, t, _⟩ := h; exact ⟨t, s.seq hb, s.seq hc⟩) ?_ ?_⟩
  · rintro i x σ H3 H4 hi ⟨v5, v6, v7, rfl, s3, h3, hr3, all⟩ ⟨t, x1, x2, x3, rfl, nt, rfl, e1, e2, e3⟩
    obtain ⟨k1, f1, rfl⟩ := iv_get e1
    obtain ⟨k2, f2, rfl⟩ := iv_get e2
    obtain ⟨k3, f3, rfl⟩ := iv_get e3
    rw [pre_get hi] at f1
    obtain rfl : pre ls i = k1 := Option.some.inj f1
    obtain rfl := at_some f2
    obtain rfl := at_some f3
    have st' := same_new nt (.tup [.int (pre ls i), .int (at_ ls i), .int (at_ ps i)])
    refine ⟨t, _, rfl, .inl (.inl upd_same), rfl, _, _, rfl, _, _, rfl, _, _, rfl, rfl, ?_⟩
    refine ⟨_, rfl, _, _, rfl, rfl, _, rfl, ?_⟩
    have bad : ¬ (0 ≤ at_ ps i ∧ at_ ps i < at_ ls i) → E (.ref a.TrapError) none (upd H3 t (.tup [.int (pre ls i), .int (at_ ls i), .int (at_ ps i)])) := fun c => e (if_neg fun z => c (z i hi)) _ (s3.trans st')
    by_cases good : 0 ≤ at_ ps i ∧ at_ ps i < at_ ls i
    · refine iteT' (decide_eq_true good.1) ?_
      refine ⟨_, rfl, _, _, rfl, rfl, _, rfl, ?_⟩
      refine ifF (by rw [decide_eq_true good.2]; rfl) ?_
      refine ⟨_, rfl, .inl ⟨rfl, _, SqL.of (st' _ _ hr3)⟩, _, rfl, _, rfl, _, _, rfl, rfl, r, _, _, rfl, rfl, st' _ _ hr3, ?_, ?_⟩
      · rw [iv_len, List.length_map, List.length_range]
        exact Nat.lt_of_lt_of_le (Nat.lt_of_lt_of_le hi hL.ln) (by decide)
      refine ⟨some (.int (pre ls i)), some (.int (at_ ls i)), some (.int (at_ ps i)), rfl, fun c' o ec => ?_, ?_, ?_, fun j hj => ?_⟩
      · rw [upd_ne (ne_of_none ec nr)]; exact st' _ _ (s3 _ _ ec)
      · refine seq_upd nrs (st'.seq h3)
      · rw [mapR]; exact upd_same
      · rcases Nat.lt_succ_iff_lt_or_eq.mp hj with hj | rfl
        · exact all j hj
        · exact good
    · by_cases c1 : 0 ≤ at_ ps i
      · refine iteT' (decide_eq_true c1) ?_
        refine ⟨_, rfl, _, _, rfl, rfl, _, rfl, ?_⟩
        exact ifT (by rw [decide_eq_false fun z => good ⟨c1, z⟩]; rfl) (bad good)
      · refine iteF' (decide_eq_false c1) ?_
        exact ⟨_, rfl, ifT rfl (bad good)⟩
  · rintro σ H3 ⟨v5, v6, v7, rfl, s3, h3, hr3, all⟩
    exact ⟨_, rfl, q _ (if_pos all) H3 r s3 nr hr3⟩
end
end K6

namespace K6
open PySem PySem.Spec PyProof.Rows L2
theorem rgV_rng (lo n : Int) : rgV lo (lo + n) = iv (rng lo n) := by
  unfold rgV rng iv
  rw [show lo + n - lo = n by omega, List.map_map]
  rfl
theorem cut_iv (v : List Int) {s n : Int} (hs : 0 ≤ s) (hn : 0 ≤ n) (h : s + n ≤ v.length) : cutV (iv v) (some s) (some (s + n)) = iv ((v.drop s.toNat).take n.toNat) := by
  obtain ⟨a, rfl⟩ := Int.eq_ofNat_of_zero_le hs
  obtain ⟨b, rfl⟩ := Int.eq_ofNat_of_zero_le hn
  have e : (a : Int) + (b : Int) = ((a + b : Nat) : Int) := by omega
  unfold cutV
  rw [e, HT.sIx_nat, HT.sIx_nat, iv_len, Nat.min_eq_left (show a ≤ v.length by omega), Nat.min_eq_left (show a + b ≤ v.length by omega), show a + b - a = b by omega]
  simp [iv, List.map_take, List.map_drop]
def zipI (ls os : List Int) (i : Nat) : List Int := rng (pre ls i) (at_ ls i) ++ rng (ls.sum + pre os i) (at_ os i)
theorem zip_len {ls os : List Int} (hL : Lens ls) (hO : Lens os) (hl : os.length = ls.length) : ∀ i, i ≤ ls.length → ((List.range i).flatMap (zipI ls os)).length = (pre ls i + pre os i).toNat
  | 0, _ => by simp [pre]
  | i + 1, h => by
    have ih := zip_len hL hO hl i (by omega)
    have a := hL.prf i
    have b := hL.seg (i := i) (by omega)
    have c := hO.prf i
    have d := hO.seg (i := i) (by omega)
    rw [List.range_succ, List.flatMap_append, List.length_append, ih, pre_succ (by omega), pre_succ (by omega)]
    simp only [List.flatMap_cons, List.flatMap_nil, List.append_nil, zipI, List.length_append, rng_len]
    omega
def sumI (ls v : List Int) (i : Nat) : Int := wrap ((v.drop (pre ls i).toNat).take (at_ ls i).toNat).sum
def pickI (ls sg : List Int) (j : Nat) : List Int := rng (pre ls (at_ sg j).toNat) (at_ ls (at_ sg j).toNat)
theorem flat_mono {G : Nat → List Int} {i n : Nat} (h : i ≤ n) : ((List.range i).flatMap G).length ≤ ((List.range n).flatMap G).length := by
  induction n with
  | zero => obtain rfl : i = 0 := by omega
            exact Nat.le_refl _
  | succ n ih =>
    by_cases c : i = n + 1
    · rw [c]; exact Nat.le_refl _
    · rw [List.range_succ, List.flatMap_append, List.length_append]
      have := ih (by omega)
      omega
section
variable {P : Program} {w : World} {K : PySem.W.Frag} {mg : Str → Option Value} {base : Heap} {a : Ad}
theorem ok_zip_segments (T : Txt w K mg a) : FnOk P w K mg base (L2.CX P w) 2 a.zip_segments.1 a.zip_segments.2 ["_", "inputs"] (spIn a.TrapError (fun _ xss => ∃ ls os, xss = [ls, os] ∧ Lens ls ∧ Lens os ∧ os.length = ls.length ∧ ls.sum + os.sum ≤ NN) (fun _ xss => some ((List.range (xss.headD []).length).flatMap (zipI (xss.headD []) (xss.getD 1 [])))) K) := by
  refine T.zip_segments.F.okX sc_zip_segments (fun vs H Q E h => h.len) (fun cdv A outer s H vs Q E hr h => ?_)
  obtain ⟨ex, p, as, xss, rfl, hp, hv, hpr, q, e⟩ := h
  have nd := sc_zip_segments.nd
  have G_starts_of := ok_starts_of (P := P) (w := w) (base := base) T
  obtain ⟨ls, os, rfl, hL, hO, hlen, hsum⟩ := hpr
  obtain ⟨b, c, rfl, hb, hc, hb', hc'⟩ := hv.two
  refine ⟨_, (pss_cons (ps_asg (pv 1) (pg_unl rfl (pgs_cons (pg_name (i := 2) nd rfl (Or.inl rfl)) (pgs_cons (pg_name (i := 3) nd rfl (Or.inl rfl)) pgs_nil))))
  (pss_cons (ps_set (i := 4) nd rfl (Or.inl rfl) (pe_callB (cr_sum rfl) (by rfl) T.sum (by decide +kernel) (pa_cons (pv 2) pa_nil)))
  (pss_cons (ps_set (i := 5) nd rfl (Or.inl rfl) (pe_lst pa_nil))
  (pss_cons (ps_for (L2.passes_of rfl) rfl (ZN.pi_zip4 (by rfl) T.zip (pa_cons (pe_call G_starts_of (hr.mono (by omega)) rfl T.starts_of.g T.starts_of.F.kp T.starts_of.b .nil pass0 (pa_cons (pv 2) pa_nil)) (pa_cons (pv 2) (pa_cons (pe_call G_starts_of (hr.mono (by omega)) rfl T.starts_of.g T.starts_of.F.kp T.starts_of.b .nil pass0 (pa_cons (pv 3) pa_nil)) (pa_cons (pv 3) pa_nil))))) (pg_tup rfl (pgs_cons (pg_name (i := 6) nd rfl (Or.inl rfl)) (pgs_cons (pg_name (i := 7) nd rfl (Or.inl rfl)) (pgs_cons (pg_name (i := 8) nd rfl (Or.inl rfl)) (pgs_cons (pg_name (i := 9) nd rfl (Or.inl rfl)) pgs_nil))))) (pss_cons (ps_expr (pe_bm PySem.F.plainAttrs_list PySem.F.slot_list_extend PySem.F.type_list_extend mt_extend (pv 5) (pa_cons (pe_listRg rfl (by rfl) T.list (prg_2 (by rfl) T.range (pv 6) (pe_op op_add (pv 6) (pv 7)))) pa_nil)))
  (pss_one (ps_expr (pe_bm PySem.F.plainAttrs_list PySem.F.slot_list_extend PySem.F.type_list_extend mt_extend (pv 5) (pa_cons (pe_listRg rfl (by rfl) T.list (prg_2 (by rfl) T.range (pe_op op_add (pv 4) (pv 8)) (pe_op op_add (pe_op op_add (pv 4) (pv 8)) (pv 9)))) pa_nil))))))
  (pss_one (ps_ret (pv 5))))))), ?_⟩
  refine ⟨_, rfl, p, _, rfl, hp, rfl, _, _, rfl, _, _, rfl, rfl, _, rfl, b, ls, rfl, hb, ?_⟩
  refine ⟨(by show 0 ≤ sizeLine; decide), fun r nr => ?_⟩
  have s1 := same_new nr (.lst [])
  refine ⟨_, rfl, b, ls, rfl, s1.seq hb, hL.ln, fun H2 st s2 nst hst => ?_⟩
  have s02 := s1.trans s2
  refine ⟨_, rfl, _, rfl, c, os, rfl, s02.seq hc, hO.ln, fun H3 ot s3 not_ hot => ?_⟩
  have s03 := s02.trans s3
  have hst' : SqL K H3 st (iv ((List.range ls.length).map (pre ls))) := SqL.of (s3 _ _ hst)
  have hot' : SqL K H3 ot (iv ((List.range os.length).map (pre os))) := SqL.of hot
  have nrs : st ≠ r := (ne_of_none upd_same nst).symm
  have nro : ot ≠ r := (ne_of_none (s2 _ _ upd_same) not_).symm
  have n0 : (iv ((List.range ls.length).map (pre ls))).length = ls.length := by rw [iv_len, List.length_map, List.length_range]
  have n1 : (iv ((List.range os.length).map (pre os))).length = ls.length := by rw [iv_len, List.length_map, List.length_range, hlen]
  refine ⟨_, rfl, st, b, ot, c, _, _, _, _, rfl, hst', s03.seq hb, hot', s03.seq hc, for_it (walk_z4 (K := K) (a := st) (b := b) (c := ot) (d := c) (xs := iv ((List.range ls.length).map (pre ls))) (ys := iv ls) (zs := iv ((List.range os.length).map (pre os))) (ws := iv os) (n := ls.length) n0 (iv_len _) n1 (by rw [iv_len]; exact hlen)) (fun i σ H4 => ∃ v6 v7 v8 v9 : Option V, σ = [some ex, some (.ref p), some (.ref b), some (.ref c), some (.int ls.sum), some (.ref r), v6, v7, v8, v9] ∧ Same H H4 ∧ SqL K H4 st (iv ((List.range ls.length).map (pre ls))) ∧ SqL K H4 ot (iv ((List.range os.length).map (pre os))) ∧ H4 r = some (.lst (iv ((List.range i).flatMap (zipI ls os))))) ⟨none, none, none, none, rfl, s03, hst', hot', s3 _ _ (s2 _ _ upd_same)⟩ (fun i σ H4 _ h => by obtain ⟨_, _, _, _, _, s, t, u, _⟩ := h; exact ⟨t, s.seq hb, u, s.seq hc⟩) ?_ ?_⟩
  · rintro i x σ H4 H5 hi ⟨v6, v7, v8, v9, rfl, s4, h4, o4, hr4⟩ ⟨t, x1, x2, x3, x4, rfl, nt, rfl, e1, e2, e3, e4⟩
    obtain ⟨k1, f1, rfl⟩ := iv_get e1
    obtain ⟨k2, f2, rfl⟩ := iv_get e2
    obtain ⟨k3, f3, rfl⟩ := iv_get e3
    obtain ⟨k4, f4, rfl⟩ := iv_get e4
    rw [pre_get hi] at f1
    obtain rfl : pre ls i = k1 := Option.some.inj f1
    rw [pre_get (by omega)] at f3
    obtain rfl : pre os i = k3 := Option.some.inj f3
    obtain rfl := at_some f2
    obtain rfl := at_some f4
    have st' := same_new nt (.tup [.int (pre ls i), .int (at_ ls i), .int (pre os i), .int (at_ os i)])
    have a1 := hL.prf i
    have a2 := hL.seg hi
    have a3 := hO.prf i
    have a4 := hO.seg (i := i) (by omega)
    have tot := zip_len hL hO hlen i (by omega)
    have b1 := (pre_le hL.mem (i + 1)).2
    have b2 := (pre_le hO.mem (i + 1)).2
    rw [pre_succ hi] at b1
    rw [pre_succ (by omega)] at b2
    have sl : NN ≤ 16777216 := by decide
    have sl' : NN ≤ sizeLine := by decide
    have z0 := sum_nn hL.mem
    refine ⟨t, _, rfl, .inl (.inl upd_same), rfl, _, _, rfl, _, _, rfl, _, _, rfl, _, _, rfl, rfl, ?_⟩
    refine ⟨_, rfl, .inl ⟨rfl, _, SqL.of (st' _ _ hr4)⟩, _, rfl, _, rfl, _, rfl, _, _, rfl, rfl, _, _, rfl, rfl, RgOk.of_le (by omega) (by omega) (by omega) (by omega), fun d hd => ?_⟩
    rw [rgV_rng]
    have sd := same_new hd (.lst (iv (rng (pre ls i) (at_ ls i))))
    refine ⟨r, d, _, _, rfl, rfl, sd _ _ (st' _ _ hr4), upd_same, ?_, ?_⟩
    · rw [iv_len, iv_len, tot, rng_len]; omega
    have hr5 : (upd (upd (upd H4 t (.tup [.int (pre ls i), .int (at_ ls i), .int (pre os i), .int (at_ os i)])) d (.lst (iv (rng (pre ls i) (at_ ls i))))) r (.lst (iv ((List.range i).flatMap (zipI ls os)) ++ iv (rng (pre ls i) (at_ ls i))))) r = some (.lst (iv ((List.range i).flatMap (zipI ls os)) ++ iv (rng (pre ls i) (at_ ls i)))) := upd_same
    have s5 : Same H (upd (upd (upd H4 t (.tup [.int (pre ls i), .int (at_ ls i), .int (pre os i), .int (at_ os i)])) d (.lst (iv (rng (pre ls i) (at_ ls i))))) r (.lst (iv ((List.range i).flatMap (zipI ls os)) ++ iv (rng (pre ls i) (at_ ls i))))) := fun c' o ec => by rw [upd_ne (ne_of_none ec nr)]; exact sd _ _ (st' _ _ (s4 _ _ ec))
    have h5 := seq_upd (o := .lst (iv ((List.range i).flatMap (zipI ls os)) ++ iv (rng (pre ls i) (at_ ls i)))) nrs ((st'.trans sd).seq h4)
    have o5 := seq_upd (o := .lst (iv ((List.range i).flatMap (zipI ls os)) ++ iv (rng (pre ls i) (at_ ls i)))) nro ((st'.trans sd).seq o4)
    generalize (upd (upd (upd H4 t (.tup [.int (pre ls i), .int (at_ ls i), .int (pre os i), .int (at_ os i)])) d (.lst (iv (rng (pre ls i) (at_ ls i))))) r (.lst (iv ((List.range i).flatMap (zipI ls os)) ++ iv (rng (pre ls i) (at_ ls i))))) = H6 at hr5 s5 h5 o5 ⊢
    refine ⟨_, rfl, .inl ⟨rfl, _, SqL.of hr5⟩, _, rfl, _, rfl, _, _, rfl, rfl, _, rfl, _, rfl, _, _, rfl, rfl, _, rfl, _, _, rfl, rfl, _, _, rfl, rfl, RgOk.of_le (by omega) (by omega) (by omega) (by omega), fun d2 hd2 => ?_⟩
    rw [rgV_rng]
    have sd2 := same_new hd2 (.lst (iv (rng (ls.sum + pre os i) (at_ os i))))
    refine ⟨r, d2, _, _, rfl, rfl, sd2 _ _ hr5, upd_same, ?_, _, _, _, _, rfl, ?_, seq_upd nrs (sd2.seq h5), seq_upd nro (sd2.seq o5), ?_⟩
    · rw [List.length_append, iv_len, iv_len, iv_len, tot, rng_len, rng_len]; omega
    · intro c' o ec
      rw [upd_ne (ne_of_none ec nr)]; exact sd2 _ _ (s5 _ _ ec)
    · rw [upd_same, List.append_assoc, ← flatR]
      simp [zipI, iv]
  · rintro σ H4 ⟨v6, v7, v8, v9, rfl, s4, h4, o4, hr4⟩
    exact ⟨_, rfl, q _ rfl H4 r s4 nr hr4⟩
theorem ok_sums (T : Txt w K mg a) : FnOk P w K mg base (L2.CX P w) 2 a.sums.1 a.sums.2 ["_", "inputs"] (spIn a.TrapError (fun _ xss => ∃ ls v, xss = [ls, v] ∧ Lens ls ∧ ls.sum = v.length) (fun _ xss => some ((List.range (xss.headD []).length).map (sumI (xss.headD []) (xss.getD 1 [])))) K) := by
  refine T.sums.F.okX sc_sums (fun vs H Q E h => h.len) (fun cdv A outer s H vs Q E hr h => ?_)
  obtain ⟨ex, p, as, xss, rfl, hp, hv, hpr, q, e⟩ := h
  have nd := sc_sums.nd
  have G_starts_of := ok_starts_of (P := P) (w := w) (base := base) T
  have G_wrapped := ok_wrapped (P := P) (w := w) (base := base) T
  obtain ⟨ls, v, rfl, hL, hsum⟩ := hpr
  obtain ⟨b, c, rfl, hb, hc, hb', hc'⟩ := hv.two
  refine ⟨_, (pss_cons (ps_asg (pv 1) (pg_unl rfl (pgs_cons (pg_name (i := 2) nd rfl (Or.inl rfl)) (pgs_cons (pg_name (i := 3) nd rfl (Or.inr rfl)) pgs_nil))))
  (pss_cons (ps_set (i := 4) nd rfl (Or.inl rfl) (pe_call G_starts_of (hr.mono (by omega)) rfl T.starts_of.g T.starts_of.F.kp T.starts_of.b .nil pass0 (pa_cons (pv 2) pa_nil)))
  (pss_one (ps_ret (pe_lc (own := [("start", 5), ("length", 6)]) (tt := tYes) rfl nd (pi_zip (by rfl) T.zip (pa_cons (pv 4) (pa_cons (pv 2) pa_nil))) (blkOk_by (N := ["_", "inputs", "lengths", "vector", "starts", "start", "length"]) (sc := defScope s_sums) (by decide +kernel)) (fun _ _ _ _ _ => (pg_tupK (K := K) (n := 2) rfl rfl (pgs_cons (pg_name (i := 5) nd rfl (Or.inl rfl)) (pgs_cons (pg_name (i := 6) nd rfl (Or.inl rfl)) pgs_nil)))) (fun _ _ _ _ _ => pts_nil) (fun _ _ _ _ _ => (pe_call G_wrapped (hr.mono (by omega)) rfl T.wrapped.g T.wrapped.F.kp T.wrapped.b .nil pass0 (pa_cons (pe_callB (cr_sumK (K := K) rfl rfl) (by rfl) T.sum (by decide +kernel) (pa_cons (pe_slice (sl_listK (K := K) rfl) (pv 3) (po_some (pv 5)) (po_some (pe_op op_add (pv 5) (pv 6)))) pa_nil)) pa_nil)))))))), ?_⟩
  refine ⟨_, rfl, p, _, rfl, hp, rfl, _, _, rfl, _, _, rfl, rfl, _, rfl, b, ls, rfl, hb, hL.ln, fun H2 st s2 nst hst => ?_⟩
  have hst' : SqL K H2 st (iv ((List.range ls.length).map (pre ls))) := SqL.of hst
  have n0 : (iv ((List.range ls.length).map (pre ls))).length = ls.length := by rw [iv_len, List.length_map, List.length_range]
  refine ⟨_, rfl, _, rfl, st, b, _, _, rfl, hst', s2.seq hb, fun D nD => lc_it (walk_zip (K := K) (a := st) (b := b) (xs := iv ((List.range ls.length).map (pre ls))) (ys := iv ls) (n := ls.length) (by rw [n0, iv_len, Nat.min_self])) (fun i H3 => Same H2 H3 ∧ H3 D = some (.lst (iv ((List.range i).map (sumI ls v))))) ⟨same_new nD _, upd_same⟩ (fun i H3 _ h => ⟨h.1.seq hst', h.1.seq (s2.seq hb)⟩) ?_ ?_⟩
  · rintro i x H3 H4 hi ⟨sm, hD⟩ ⟨t, x1, x2, rfl, nt, rfl, e1, e2⟩
    obtain ⟨k1, f1, rfl⟩ := iv_get e1
    obtain ⟨k2, f2, rfl⟩ := iv_get e2
    rw [pre_get hi] at f1
    obtain rfl : pre ls i = k1 := Option.some.inj f1
    obtain rfl := at_some f2
    have st' := same_new nt (.tup [.int (pre ls i), .int (at_ ls i)])
    have a1 := hL.prf i
    have a2 := hL.seg hi
    have b1 := (pre_le hL.mem (i + 1)).2
    rw [pre_succ hi] at b1
    refine ⟨t, _, rfl, .inl (.inl upd_same), rfl, _, _, rfl, _, _, rfl, rfl, rfl, ?_⟩
    refine ⟨_, rfl, _, rfl, _, rfl, _, rfl, _, rfl, _, _, rfl, rfl, _, rfl, c, _, rfl, (sm.trans st').seq (s2.seq hc), fun d hd => ?_⟩
    rw [cut_iv v a1.1 a2.1 (by omega)]
    have sd := same_new hd (.lst (iv ((v.drop (pre ls i).toNat).take (at_ ls i).toNat)))
    exact ⟨d, _, rfl, SqL.of upd_same, _, rfl, tick (sm.trans st') nD (st' _ _ hD) sd (mapR (sumI ls v) i) (by rw [iv_len, List.length_map, List.length_range]; have := hL.ln; omega)⟩
  · rintro H3 ⟨sm, hD⟩
    exact q _ rfl H3 D (s2.trans sm) (by
      cases z : H D with
      | none => rfl
      | some o => have := s2 _ _ z; rw [nD] at this; cases this) hD
theorem ok_pick (T : Txt w K mg a) : FnOk P w K mg base (L2.CX P w) 2 a.pick.1 a.pick.2 ["_", "inputs"] (spIn a.TrapError (fun _ xss => ∃ ls sg, xss = [ls, sg] ∧ Lens ls ∧ (∀ k ∈ sg, 0 ≤ k ∧ k < ls.length) ∧ ((List.range sg.length).flatMap (pickI ls sg)).length ≤ NN) (fun _ xss => some ((List.range (xss.getD 1 []).length).flatMap (pickI (xss.headD []) (xss.getD 1 [])))) K) := by
  refine T.pick.F.okX sc_pick (fun vs H Q E h => h.len) (fun cdv A outer s H vs Q E hr h => ?_)
  obtain ⟨ex, p, as, xss, rfl, hp, hv, hpr, q, e⟩ := h
  have nd := sc_pick.nd
  have G_starts_of := ok_starts_of (P := P) (w := w) (base := base) T
  obtain ⟨ls, sg, rfl, hL, hk, htot⟩ := hpr
  obtain ⟨b, c, rfl, hb, hc, hb', hc'⟩ := hv.two
  refine ⟨_, (pss_cons (ps_asg (pv 1) (pg_unl rfl (pgs_cons (pg_name (i := 2) nd rfl (Or.inr rfl)) (pgs_cons (pg_name (i := 3) nd rfl (Or.inl rfl)) pgs_nil))))
  (pss_cons (ps_set (i := 4) nd rfl (Or.inr rfl) (pe_call G_starts_of (hr.mono (by omega)) rfl T.starts_of.g T.starts_of.F.kp T.starts_of.b .nil pass0 (pa_cons (pv 2) pa_nil)))
  (pss_one (ps_ret (pe_lc2 (own := [("at", 5), ("index", 6)]) (vs1 := [6]) (g := gName 5) (tt := tYes) (g1 := gName 6) (tt1 := tYes) rfl nd (pi_list (pv 3)) (blkOk_by (N := ["_", "inputs", "lengths", "segments", "starts", "at", "index"]) (sc := defScope s_pick) (by decide +kernel)) (by decide) (fun _ _ _ _ _ => (pg_name (i := 5) nd rfl (Or.inl rfl))) (fun _ _ _ _ _ => pts_nil) (fun _ _ _ _ _ => (pi_range2 rfl T.range (pa_cons (pe_ix (ix_listK (K := K) rfl) (pv 4) (pv 5) (fun _ _ => rfl)) (pa_cons (pe_op op_add (pe_ix (ix_listK (K := K) rfl) (pv 4) (pv 5) (fun _ _ => rfl)) (pe_ix (ix_listK (K := K) rfl) (pv 2) (pv 5) (fun _ _ => rfl))) pa_nil)))) (fun _ _ _ _ _ => (pg_name (i := 6) nd rfl (Or.inl rfl))) (fun _ _ _ _ _ => pts_nil) (fun _ _ _ _ _ => (pv 6))))))), ?_⟩
  refine ⟨_, rfl, p, _, rfl, hp, rfl, _, _, rfl, _, _, rfl, rfl, _, rfl, b, ls, rfl, hb, hL.ln, fun H2 st s2 nst hst => ?_⟩
  have hst' : SqL K H2 st (iv ((List.range ls.length).map (pre ls))) := SqL.of hst
  refine ⟨_, rfl, c, rfl, ⟨_, s2.seq hc⟩, fun D nD => in_it (walk_list (K := K) (a := c) (xs := iv sg)) (fun i H3 => Same H2 H3 ∧ H3 D = some (.lst (iv ((List.range i).flatMap (pickI ls sg))))) ⟨same_new nD _, upd_same⟩ (fun i H3 _ h => h.1.seq (s2.seq hc)) ?_ ?_⟩
  · rintro i x H3 H4 hi ⟨sm, hD⟩ ⟨rfl, hx⟩
    obtain ⟨m, hm, rfl⟩ := iv_get hx
    have il := (List.getElem?_eq_some_iff.mp hm).1
    obtain ⟨m0, m1⟩ := hk m (List.mem_of_getElem? hm)
    obtain ⟨j, rfl⟩ := Int.eq_ofNat_of_zero_le m0
    have jl : j < ls.length := by omega
    have a1 := hL.prf j
    have a2 := hL.seg jl
    have sl : NN ≤ 16777216 := by decide
    have ej : at_ sg i = (j : Int) := at_some hm
    have gs : atI (iv ((List.range ls.length).map (pre ls))) (j : Int) = some (.int (pre ls j)) := atI_nat (get_iv (pre_get jl))
    have gl : atI (iv ls) (j : Int) = some (.int (at_ ls j)) := atI_nat (get_iv (at_get jl))
    have hst3 := sm.seq hst'
    have hb3 := sm.seq (s2.seq hb)
    refine ⟨rfl, _, rfl, _, rfl, st, _, _, _, rfl, rfl, hst3, gs, _, rfl, _, rfl, st, _, _, _, rfl, rfl, hst3, gs, _, rfl, _, rfl, b, _, _, _, rfl, rfl, hb3, gl, _, _, rfl, rfl, _, _, rfl, ⟨by omega, by omega, by omega, by omega⟩, in_it (walk_range (lo := pre ls j) (n := (pre ls j + at_ ls j - pre ls j).toNat)) (fun k H5 => Same H2 H5 ∧ H5 D = some (.lst (iv ((List.range i).flatMap (pickI ls sg)) ++ iv ((List.range k).map fun (k : Nat) => pre ls j + (k : Int))))) ⟨sm, by rw [hD]; simp [iv]⟩ (fun _ _ _ _ => trivial) ?_ ?_⟩
    · rintro k x H5 H6 hk2 ⟨sm5, hD5⟩ ⟨rfl, rfl⟩
      refine ⟨rfl, _, rfl, tick sm5 nD hD5 (fun _ _ e => e) ?_ ?_⟩
      · rw [List.append_assoc, ← mapR]
      · rw [List.length_append, iv_len, iv_len, List.length_map, List.length_range]
        have z1 := flat_mono (G := pickI ls sg) (i := i + 1) (n := sg.length) (by omega)
        rw [List.range_succ, List.flatMap_append, List.length_append] at z1
        have z2 : (pickI ls sg i).length = (at_ ls j).toNat := by unfold pickI; rw [rng_len, ej]; rfl
        simp only [List.flatMap_cons, List.flatMap_nil, List.append_nil] at z1
        rw [z2] at z1
        omega
    · rintro H5 ⟨sm5, hD5⟩
      refine ⟨sm5, ?_⟩
      rw [hD5, ← flatR]
      have : (pre ls j + at_ ls j - pre ls j).toNat = (at_ ls j).toNat := by omega
      rw [this]
      unfold pickI
      rw [ej]
      rfl
  · rintro H3 ⟨sm, hD⟩
    rw [iv_len] at hD
    exact q _ rfl H3 D (s2.trans sm) (by
      cases z : H D with
      | none => rfl
      | some o => have := s2 _ _ z; rw [nD] at this; cases this) hD
end
end K6

namespace K6
open PySem PySem.Spec PyProof.Rows L2
def calcI (k : Nat) (v u : List Int) (i : Nat) : Int := wrap ((opI k (at_ v i) (at_ u i)).getD 0)
theorem sgn_idx {k : Nat} {s : Str} (h : sgn[k]? = some s) : sgn.idxOf s = k := by
  match k, h with
  | 0, h => obtain rfl : ("+" : Str) = _ := Option.some.inj h; decide +kernel
  | 1, h => obtain rfl : ("-" : Str) = _ := Option.some.inj h; decide +kernel
  | 2, h => obtain rfl : ("*" : Str) = _ := Option.some.inj h; decide +kernel
  | 3, h => obtain rfl : ("/" : Str) = _ := Option.some.inj h; decide +kernel
  | 4, h => obtain rfl : ("mod" : Str) = _ := Option.some.inj h; decide +kernel
  | 5, h => obtain rfl : ("min" : Str) = _ := Option.some.inj h; decide +kernel
  | 6, h => obtain rfl : ("max" : Str) = _ := Option.some.inj h; decide +kernel
  | 7, h => obtain rfl : ("<" : Str) = _ := Option.some.inj h; decide +kernel
  | 8, h => obtain rfl : ("=" : Str) = _ := Option.some.inj h; decide +kernel
  | _ + 9, h => exact absurd h (by simp [sgn])
def calcR (k : Nat) (v u : List Int) : Option (List Int) := if ∀ i < v.length, opI k (at_ v i) (at_ u i) ≠ none then some ((List.range v.length).map (calcI k v u)) else none
section
variable {P : Program} {w : World} {K : PySem.W.Frag} {mg : Str → Option Value} {base : Heap} {a : Ad}
theorem ok_calc (T : Txt w K mg a) : FnOk P w K mg base (L2.CX P w) 3 a.calc_.1 a.calc_.2 ["extra", "inputs"] (spIn a.TrapError (fun ex xss => ∃ (k : Nat) (s : Str) (v u : List Int), ex = .str s ∧ sgn[k]? = some s ∧ xss = [v, u] ∧ u.length = v.length ∧ v.length ≤ NN ∧ (∀ n ∈ v, InR n) ∧ ∀ n ∈ u, InR n) (fun ex xss => match ex with | .str s => calcR (sgn.idxOf s) (xss.headD []) (xss.getD 1 []) | _ => none) K) := by
  refine T.calc_.F.okX sc_calc (fun vs H Q E h => h.len) (fun cdv A outer s H vs Q E hr h => ?_)
  obtain ⟨ex, p, as, xss, rfl, hp, hv, hpr, q, e⟩ := h
  have nd := sc_calc.nd
  have G_calculate := ok_calculate (P := P) (w := w) (base := base) T
  obtain ⟨k, s0, v, u, rfl, hk, rfl, hl, hn, hvi, hui⟩ := hpr
  obtain ⟨b, c, rfl, hb, hc, hb', hc'⟩ := hv.two
  have q : ∀ out, calcR k v u = some out → ∀ (H' : Hp) (q : Addr), Same H H' → H q = none → H' q = some (.lst (iv out)) → Q (.ref q) H' := fun out e => q out (by show calcR (sgn.idxOf s0) v u = _; rw [sgn_idx hk]; exact e)
  have e : calcR k v u = none → ∀ H', Same H H' → E (.ref a.TrapError) none H' := fun z => e (by show calcR (sgn.idxOf s0) v u = _; rw [sgn_idx hk]; exact z)
  refine ⟨_, (pss_one (ps_ret (LX.pe_lcX (EX := E) (own := [("a", 2), ("b", 3)]) (tt := tYes) rfl nd rfl rfl (takes_of rfl rfl rfl rfl) (pi_zip (by rfl) T.zip (pa_cons (pe_ix ix_list (pv 1) pe_int (fun _ _ => rfl)) (pa_cons (pe_ix ix_list (pv 1) pe_int (fun _ _ => rfl)) pa_nil))) (blkOk_by (N := ["extra", "inputs", "a", "b"]) (sc := defScope s_calc) (by decide +kernel)) (fun _ _ _ _ _ => (pg_tupK (K := K) (n := 2) rfl rfl (pgs_cons (pg_name (i := 2) nd rfl (Or.inl rfl)) (pgs_cons (pg_name (i := 3) nd rfl (Or.inl rfl)) pgs_nil)))) (fun _ _ _ _ _ => pts_nil) (fun _ _ _ _ _ _ hx => (pe_call G_calculate (hr.mono (by omega)) rfl T.calculate.g T.calculate.F.kp T.calculate.b .nil hx (pa_cons (pv 0) (pa_cons (pv 2) (pa_cons (pv 3) pa_nil)))))))), ?_⟩
  refine ⟨_, rfl, p, _, _, _, rfl, rfl, hp, rfl, _, rfl, p, _, _, _, rfl, rfl, hp, rfl, b, c, _, _, rfl, hb, hc, fun D nD => lc_it (walk_zip (K := K) (a := b) (b := c) (xs := iv v) (ys := iv u) (n := v.length) (by rw [iv_len, iv_len, hl, Nat.min_self])) (fun i H3 => Same H H3 ∧ H3 D = some (.lst (iv ((List.range i).map (calcI k v u)))) ∧ ∀ j < i, opI k (at_ v j) (at_ u j) ≠ none) ⟨same_new nD _, upd_same, fun j z => absurd z (Nat.not_lt_zero _)⟩ (fun i H3 _ h => ⟨h.1.seq hb, h.1.seq hc⟩) ?_ ?_⟩
  · rintro i x H3 H4 hi ⟨sm, hD, all⟩ ⟨t, x1, x2, rfl, nt, rfl, e1, e2⟩
    obtain ⟨k1, f1, rfl⟩ := iv_get e1
    obtain ⟨k2, f2, rfl⟩ := iv_get e2
    have r1 := hvi _ (List.mem_of_getElem? f1)
    have r2 := hui _ (List.mem_of_getElem? f2)
    obtain rfl := at_some f1
    obtain rfl := at_some f2
    have st' := same_new nt (.tup [.int (at_ v i), .int (at_ u i)])
    refine ⟨t, _, rfl, .inl (.inl upd_same), rfl, _, _, rfl, _, _, rfl, rfl, rfl, ?_⟩
    refine ⟨_, rfl, _, rfl, _, rfl, k, s0, at_ v i, at_ u i, rfl, hk, r1, r2, fun n en => ?_, fun en => ?_⟩
    · have ec : calcI k v u i = wrap n := by unfold calcI; rw [en]; rfl
      obtain ⟨acc, t1, t2, t3⟩ := tick (y := .int (wrap n)) (B := iv ((List.range (i + 1)).map (calcI k v u))) (sm.trans st') nD (st' _ _ hD) (fun _ _ e => e) (by rw [← ec]; exact mapR (calcI k v u) i) (by rw [iv_len, List.length_map, List.length_range]; omega)
      refine ⟨acc, t1, t2, t3.1, t3.2, fun j hj => ?_⟩
      rcases Nat.lt_succ_iff_lt_or_eq.mp hj with hj | rfl
      · exact all j hj
      · rw [en]; exact fun z => nomatch z
    · exact e (if_neg fun z => z i hi en) _ (sm.trans st')
  · rintro H3 ⟨sm, hD, all⟩
    exact q _ (if_pos all) H3 D sm nD hD
end
end K6

namespace K6
open PySem PySem.Spec PyProof.Rows L2
abbrev PrT := V → List (List Int) → Prop
abbrev ReT := V → List (List Int) → Option (List Int)
abbrev pr_fill : PrT := (fun ex xss => ∃ n v, ex = .int n ∧ xss = [v] ∧ v.length ≤ NN)
abbrev re_fill : ReT := (fun ex xss => match ex with | .int n => some ((xss.headD []).map fun _ => n) | _ => none)
abbrev pr_calc_ : PrT := (fun ex xss => ∃ (k : Nat) (s : Str) (v u : List Int), ex = .str s ∧ sgn[k]? = some s ∧ xss = [v, u] ∧ u.length = v.length ∧ v.length ≤ NN ∧ (∀ n ∈ v, InR n) ∧ ∀ n ∈ u, InR n)
abbrev re_calc_ : ReT := (fun ex xss => match ex with | .str s => calcR (sgn.idxOf s) (xss.headD []) (xss.getD 1 []) | _ => none)
abbrev pr_take_ : PrT := (fun _ xss => ∃ v ix, xss = [v, ix] ∧ ix.length ≤ NN ∧ ∀ k ∈ ix, 0 ≤ k ∧ k < v.length)
abbrev re_take_ : ReT := (fun _ xss => some ((xss.getD 1 []).map fun k => at_ (xss.headD []) k.toNat))
abbrev pr_pick : PrT := (fun _ xss => ∃ ls sg, xss = [ls, sg] ∧ Lens ls ∧ (∀ k ∈ sg, 0 ≤ k ∧ k < ls.length) ∧ ((List.range sg.length).flatMap (pickI ls sg)).length ≤ NN)
abbrev re_pick : ReT := (fun _ xss => some ((List.range (xss.getD 1 []).length).flatMap (pickI (xss.headD []) (xss.getD 1 []))))
abbrev pr_repeat_ : PrT := (fun _ xss => ∃ ls, xss = [ls] ∧ Lens ls)
abbrev re_repeat_ : ReT := (fun _ xss => some ((List.range (xss.headD []).length).flatMap fun i => List.replicate (at_ (xss.headD []) i).toNat (i : Int)))
abbrev pr_count_ : PrT := (fun _ xss => ∃ ls, xss = [ls] ∧ Lens ls)
abbrev re_count_ : ReT := (fun _ xss => some ((List.range (xss.headD []).length).flatMap fun i => rng 0 (at_ (xss.headD []) i)))
abbrev pr_where_ : PrT := (fun ex xss => ∃ b v, ex = .bl b ∧ xss = [v] ∧ v.length ≤ NN)
abbrev re_where_ : ReT := (fun ex xss => match ex with | .bl b => some ((List.range (xss.headD []).length).flatMap fun i => if decide (at_ (xss.headD []) i ≠ 0) = b then [(i : Int)] else []) | _ => none)
abbrev pr_weave : PrT := (fun _ xss => ∃ v, xss = [v] ∧ v.length ≤ NN)
abbrev re_weave : ReT := (fun _ xss => some ((List.range (xss.headD []).length).map (weaveI (xss.headD []))))
abbrev pr_join_ : PrT := (fun _ xss => ∃ v u, xss = [v, u] ∧ v.length + u.length ≤ NN)
abbrev re_join_ : ReT := (fun _ xss => some (xss.headD [] ++ xss.getD 1 []))
abbrev pr_sums : PrT := (fun _ xss => ∃ ls v, xss = [ls, v] ∧ Lens ls ∧ ls.sum = v.length)
abbrev re_sums : ReT := (fun _ xss => some ((List.range (xss.headD []).length).map (sumI (xss.headD []) (xss.getD 1 []))))
abbrev pr_zip_segments : PrT := (fun _ xss => ∃ ls os, xss = [ls, os] ∧ Lens ls ∧ Lens os ∧ os.length = ls.length ∧ ls.sum + os.sum ≤ NN)
abbrev re_zip_segments : ReT := (fun _ xss => some ((List.range (xss.headD []).length).flatMap (zipI (xss.headD []) (xss.getD 1 []))))
abbrev pr_place : PrT := (fun _ xss => ∃ ls ps, xss = [ls, ps] ∧ Lens ls ∧ ps.length = ls.length)
abbrev re_place : ReT := (fun _ xss => if ∀ i < (xss.headD []).length, 0 ≤ at_ (xss.getD 1 []) i ∧ at_ (xss.getD 1 []) i < at_ (xss.headD []) i then some ((List.range (xss.headD []).length).map fun i => pre (xss.headD []) i + at_ (xss.getD 1 []) i) else none)
abbrev pr_need_range : PrT := (fun _ xss => ∃ v, xss = [v] ∧ v.length ≤ NN)
abbrev re_need_range : ReT := (fun _ xss => if ∀ x ∈ xss.headD [], 0 ≤ x ∧ x ≤ 1000 then some (xss.headD []) else none)
abbrev pr_need_same : PrT := (fun _ xss => ∃ v u, xss = [v, u])
abbrev re_need_same : ReT := (fun _ xss => if xss.headD [] = xss.getD 1 [] then some (xss.headD []) else none)
abbrev pr_flags : PrT := (fun _ xss => ∃ v, xss = [v] ∧ v.length ≤ NN)
abbrev re_flags : ReT := (fun _ xss => some ((xss.headD []).map fun x => if x = 0 then 0 else 1))
/-- the instructions, what each asks of its inputs, what it gives -/
inductive Ins : Str → PrT → ReT → Prop
  | fill : Ins "fill" pr_fill re_fill
  | calc_ : Ins "calc" pr_calc_ re_calc_
  | take_ : Ins "take" pr_take_ re_take_
  | pick : Ins "pick" pr_pick re_pick
  | repeat_ : Ins "repeat" pr_repeat_ re_repeat_
  | count_ : Ins "count" pr_count_ re_count_
  | where_ : Ins "where" pr_where_ re_where_
  | weave : Ins "weave" pr_weave re_weave
  | join_ : Ins "join" pr_join_ re_join_
  | sums : Ins "sums" pr_sums re_sums
  | zip_segments : Ins "zip" pr_zip_segments re_zip_segments
  | place : Ins "place" pr_place re_place
  | need_range : Ins "range" pr_need_range re_need_range
  | need_same : Ins "same" pr_need_same re_need_same
  | flags : Ins "flags" pr_flags re_flags
/-- what may be shown: no dict, numbers of the range, of depth n and length m at most -/
structure Shw (d : PyData) (n m : Nat) : Prop where
  ok : d.showable = true
  nd : d.hasDict = false
  dp : d.depth ≤ n
  ln : d.shown.length ≤ m
structure Shws (ds : List PyData) (n m : Nat) : Prop where
  ok : PyData.showableAll ds = true
  nd : PyData.hasDictAll ds = false
  dp : PyData.depthAll ds ≤ n
  ln : ((PyData.shownAll ds).map (·.length)).sum ≤ m
theorem Shws.nil {n m : Nat} : Shws [] n m := ⟨rfl, rfl, Nat.zero_le _, Nat.zero_le _⟩
theorem Shws.cons {d : PyData} {ds : List PyData} {n m m' : Nat} (h : Shw d n m) (hs : Shws ds n m') : Shws (d :: ds) n (m + m') :=
  ⟨by show (d.showable && PyData.showableAll ds) = true; rw [h.ok, hs.ok]; rfl, by show (d.hasDict || PyData.hasDictAll ds) = false; rw [h.nd, hs.nd]; rfl,
   by show max d.depth (PyData.depthAll ds) ≤ n; have := h.dp; have := hs.dp; omega, by show d.shown.length + ((PyData.shownAll ds).map (·.length)).sum ≤ m + m'; have := h.ln; have := hs.ln; omega⟩
theorem Shws.lst {ds : List PyData} {n m : Nat} (h : Shws ds n m) : Shw (.list ds) (n + 1) (m + 2 * ds.length + 3) :=
  ⟨h.ok, h.nd, by show PyData.depthAll ds + 1 ≤ n + 1; have := h.dp; omega, by
    have a := listText_len_le (PyData.shownAll ds)
    have b := PyData.shownAll_length ds
    have c := h.ln
    show (listText (PyData.shownAll ds)).length ≤ _
    omega⟩
theorem shw_int {n : Int} (h : InR n) : Shw (.int n) 0 11 := ⟨by
    show decide (n.natAbs.log2 < 1920) = true
    refine decide_eq_true ?_
    exact Nat.lt_of_lt_of_le (PySem.Flt.log2_lt_of (n := n.natAbs) (k := 34) (by decide) (by unfold InR at h; omega)) (by decide), rfl, Nat.le_refl _, by
    show (Str.ofString (toString n)).length ≤ 11
    have e := int_text_length_le10 (a := n) (k := 10) (by decide) (by unfold InR at h; omega)
    rw [PySem.ofString_length]; exact e⟩
theorem ints_shw {ns : List Int} (h : ∀ n ∈ ns, InR n) : Shws (ns.map .int) 0 (11 * ns.length) := by
  induction ns with
  | nil => exact Shws.nil
  | cons n r ih =>
    have := Shws.cons (shw_int (h n (List.mem_cons_self ..))) (ih fun m hm => h m (List.mem_cons_of_mem _ hm))
    rw [List.length_cons, Nat.mul_add, Nat.mul_one, Nat.add_comm]
    exact this
/-- few numbers -/
structure Few (xss : List (List Int)) : Prop where
  ln : xss.length ≤ 2
  sz : ∀ x ∈ xss, x.length ≤ 100 ∧ ∀ n ∈ x, InR n
def inp (xss : List (List Int)) : PyData := .list (xss.map nsd)
theorem nsd_shw {x : List Int} (h : x.length ≤ 100 ∧ ∀ n ∈ x, InR n) : Shw (nsd x) 1 1303 := by
  have a := (ints_shw h.2).lst
  rw [List.length_map] at a
  exact ⟨a.ok, a.nd, a.dp, Nat.le_trans a.ln (by omega)⟩
theorem nsds_shw : ∀ {xss : List (List Int)}, (∀ x ∈ xss, x.length ≤ 100 ∧ ∀ n ∈ x, InR n) → Shws (xss.map nsd) 1 (1303 * xss.length)
  | [], _ => Shws.nil
  | x :: r, h => by
    have := Shws.cons (nsd_shw (h x (List.mem_cons_self ..))) (nsds_shw fun m hm => h m (List.mem_cons_of_mem _ hm))
    rw [List.length_cons, Nat.mul_add, Nat.mul_one, Nat.add_comm]
    exact this
theorem inp_shw {xss : List (List Int)} (h : Few xss) : Shw (inp xss) 2 3000 := by
  have a := (nsds_shw h.sz).lst
  rw [List.length_map] at a
  have := h.ln
  exact ⟨a.ok, a.nd, a.dp, Nat.le_trans a.ln (by omega)⟩
theorem inp_dp {K : PySem.W.Frag} {H : Hp} {p : Addr} {as : List Addr} {xss : List (List Int)} (hp : SqL K H p (as.map V.ref)) (hv : VecsAt K H as xss) : Dp K H (.ref p) (inp xss) := by
  refine .lst hp ?_
  clear hp
  induction as generalizing xss with
  | nil =>
    cases xss with
    | nil => exact .nil
    | cons x t => exact hv.elim
  | cons b r ih =>
    cases xss with
    | nil => exact hv.elim
    | cons x t => exact .cons (nsd_dp (SqL.of hv.1)) (ih hv.2)
section
variable {P : Program} {w : World} {K : PySem.W.Frag} {mg : Str → Option Value} {base : Heap} {a : Ad}
def spExec (TE : Addr) (K : PySem.W.Frag) : Sp := fun vs H Q E => ∃ (s : Str) (ex p : V) (pr : PrT) (res : ReT), vs = [.str s, ex, p] ∧ Ins s pr res ∧ spIn TE pr res K [ex, p] H Q E
theorem exec_of (T : Txt w K mg a) {s : Str} {ex p : V} {pr : PrT} {res : ReT} {f : Addr × FuncData} {x y : Str} {st : Stmt} {l : Nat} (hl : l ≤ 3) (F : Fun K x x st f.1 f.2) (b : Binds K f.2 [y, "inputs"] []) (G : FnOk P w K mg base (L2.CX P w) l f.1 f.2 [y, "inputs"] (spIn a.TrapError pr res K)) (ho : KDct K w a.INS s (.ref f.1))
    {cdv : Value} {A : Around} {outer : List Env} {sh : Shared} {H : Hp} {Q : VK} {E : XK} (hr : Room 3 (A.deeper (envOfC "execute" (defScope s_execute) sh.heap.objs.size a.execute.1 cdv)))
    (q : spIn a.TrapError pr res K [ex, p] H Q E) :
    ∃ t, PSs (cxOf (L2.CX P w) P w K mg base ["name", "extra", "inputs", "instruction"] "execute" (defScope s_execute) a.execute.1 cdv A outer sh H E) (defBody s_execute) t ∧ t { nx := fun _ H' => Q .non H', rt := Q } (start ["name", "extra", "inputs", "instruction"] [.str s, ex, p]) H := by
  have nd := sc_execute.nd
  refine ⟨_, (pss_cons (ps_set (i := 3) nd rfl (Or.inl rfl) (pe_ix ix_kdict (pe_glob (v := .ref a.INS) rfl T.gIN rfl) (pv 0) (fun _ _ => rfl)))
  (pss_one (ps_ret (pe_callL (i := 3) G (hr.mono hl) rfl (.inl rfl) F.kp b .nil (passes_call (takes_of rfl rfl rfl rfl) (fun _ _ _ _ h => h)) (pa_cons (pv 1) (pa_cons (pv 2) pa_nil)))))), ?_⟩
  exact ⟨_, rfl, a.INS, s, _, rfl, rfl, ho, rfl, _, rfl, _, rfl, q⟩
theorem ok_execute (T : Txt w K mg a) : FnOk P w K mg base (L2.CX P w) 4 a.execute.1 a.execute.2 ["name", "extra", "inputs"] (spExec a.TrapError K) := by
  refine T.execute.F.okX sc_execute (fun vs H Q E h => ?_) (fun cdv A outer s H vs Q E hr h => ?_)
  · obtain ⟨s, ex, p, _, _, rfl, _⟩ := h
    rfl
  obtain ⟨s, ex, p, pr, res, rfl, hin, q⟩ := h
  cases hin with
  | fill => exact exec_of T (by decide) T.fill.F T.fill.b (ok_fill T) T.n_fill hr q
  | calc_ => exact exec_of T (by decide) T.calc_.F T.calc_.b (ok_calc T) T.n_calc hr q
  | take_ => exact exec_of T (by decide) T.take_.F T.take_.b (ok_take T) T.n_take hr q
  | pick => exact exec_of T (by decide) T.pick.F T.pick.b (ok_pick T) T.n_pick hr q
  | repeat_ => exact exec_of T (by decide) T.repeat_.F T.repeat_.b (ok_repeat T) T.n_repeat hr q
  | count_ => exact exec_of T (by decide) T.count_.F T.count_.b (ok_count T) T.n_count hr q
  | where_ => exact exec_of T (by decide) T.where_.F T.where_.b (ok_where T) T.n_where hr q
  | weave => exact exec_of T (by decide) T.weave.F T.weave.b (ok_weave T) T.n_weave hr q
  | join_ => exact exec_of T (by decide) T.join_.F T.join_.b (ok_join T) T.n_join hr q
  | sums => exact exec_of T (by decide) T.sums.F T.sums.b (ok_sums T) T.n_sums hr q
  | zip_segments => exact exec_of T (by decide) T.zip_segments.F T.zip_segments.b (ok_zip_segments T) T.n_zip hr q
  | place => exact exec_of T (by decide) T.place.F T.place.b (ok_place T) T.n_place hr q
  | need_range => exact exec_of T (by decide) T.need_range.F T.need_range.b (ok_need_range T) T.n_range hr q
  | need_same => exact exec_of T (by decide) T.need_same.F T.need_same.b (ok_need_same T) T.n_same hr q
  | flags => exact exec_of T (by decide) T.flags.F T.flags.b (ok_flags T) T.n_flags hr q
end
end K6

namespace K6
open PySem PySem.Spec PyProof.Rows L2
theorem VecsAt.upd {K : PySem.W.Frag} {H : Hp} {q : Addr} {o : HO} : ∀ {as : List Addr} {xss : List (List Int)}, VecsAt K H as xss → q ∉ as → VecsAt K (upd H q o) as xss
  | [], [], _, _ => trivial
  | b :: r, _ :: _, ⟨x, y⟩, n => ⟨by rw [upd_ne (fun z => n (by rw [z]; exact List.mem_cons_self ..))]; exact x, y.upd fun z => n (List.mem_cons_of_mem _ z)⟩
  | [], _ :: _, h, _ => h.elim
  | _ :: _, [], h, _ => h.elim
theorem VecsAt.snoc {K : PySem.W.Frag} {H : Hp} {d : Addr} {x : List Int} (hd : H d = some (.lst (iv x))) : ∀ {as : List Addr} {xss : List (List Int)}, VecsAt K H as xss → VecsAt K H (as ++ [d]) (xss ++ [x])
  | [], [], _ => ⟨hd, trivial⟩
  | b :: r, _ :: _, ⟨x, y⟩ => ⟨x, y.snoc hd⟩
  | [], _ :: _, h => h.elim
  | _ :: _, [], h => h.elim
theorem VecsAt.get {K : PySem.W.Frag} {H : Hp} {x : List Int} : ∀ {as : List Addr} {xss : List (List Int)} {i : Nat}, VecsAt K H as xss → xss[i]? = some x → ∃ b, as[i]? = some b ∧ H b = some (.lst (iv x))
  | b :: _, y :: _, 0, ⟨h, _⟩, e => ⟨b, rfl, by obtain rfl : y = x := Option.some.inj e; exact h⟩
  | _ :: _, _ :: _, i + 1, ⟨_, h⟩, e => h.get (i := i) e
  | _, [], i, _, e => by simp at e
  | [], _ :: _, _, h, _ => h.elim
theorem VecsAt.len {K : PySem.W.Frag} {H : Hp} : ∀ {as : List Addr} {xss : List (List Int)}, VecsAt K H as xss → as.length = xss.length
  | [], [], _ => rfl
  | _ :: _, _ :: _, ⟨_, h⟩ => congrArg (· + 1) h.len
  | [], _ :: _, h => h.elim
  | _ :: _, [], h => h.elim
def segI (ls row : List Int) (i : Nat) : List Int := (row.drop (pre ls i).toNat).take (at_ ls i).toNat
section
variable {P : Program} {w : World} {K : PySem.W.Frag} {mg : Str → Option Value} {base : Heap} {a : Ad}
def spTold (K : PySem.W.Frag) : Sp := fun vs H Q _ => ∃ (s : Str) (ex : V) (p : Addr) (as : List Addr) (xss : List (List Int)) (pr : PrT) (res : ReT), vs = [.str s, ex, .ref p] ∧ Ins s pr res ∧ SqL K H p (as.map V.ref) ∧ VecsAt K H as xss ∧ pr ex xss ∧ Few xss ∧ (∀ out, res ex xss = some out → out.length ≤ NN) ∧
  (∀ out, res ex xss = some out → ∀ (H' : Hp) (q : Addr), Same H H' → H q = none → H' q = some (.lst (iv out)) → Q (.ref q) H') ∧ (res ex xss = none → ∀ H', Same H H' → Q (.str "trap") H')
theorem isLst {K : PySem.W.Frag} : PySem.W.kitOne K (.type "list") (.type "list") = some true := kit_ty (by decide +kernel)
theorem ok_law_told (T : Txt w K mg a) : GX.FnG P w K mg base CX0 5 a.law_told.1 a.law_told.2 ["name", "extra", "inputs"] (spTold K) := by
  refine GX.fnG T.law_told.F sc_law_told (fun vs H Q E h => ?_) (fun cdv A outer s H vs Q E hg hr h => ?_)
  · obtain ⟨_, _, _, _, _, _, _, rfl, _⟩ := h
    rfl
  obtain ⟨s0, ex, p, as, xss, pr, res, rfl, hin, hp, hv, hpr, few, hnn, q, e⟩ := h
  have nd := sc_law_told.nd
  have G_execute := ok_execute (P := P) (w := w) (base := base) T
  have SH := inp_shw few
  have shown : ∀ H1, Same H H1 → Dp K H1 (.ref p) (inp xss) := fun H1 s1 => inp_dp (s1.seq hp) (hv.same s1)
  refine ⟨_, (pss_cons (ps_set (i := 3) nd rfl (Or.inl rfl) (pe_callB (GX.call_reprD hg hr.units) (by rfl) T.repr (by decide +kernel) (pa_cons (pv 2) pa_nil)))
  (pss_cons (ps_try_only (tb := fun W => tAsg (tCallS (spExec a.TrapError K) (WE W) (tCons (tVar 0) (tCons (tVar 1) (tCons (tVar 2) tNil)))) (gName 4)) (ts := fun _ _ _ => tRet (tC (.str "trap"))) (Wout := fun _ _ _ _ => False) rfl rfl ⟨rfl, by decide, Or.inl T.gTrapError⟩ takes0
    (fun W pn xe tk _ => pss_one (ps_set (i := 4) nd rfl (Or.inl rfl) (by exact (pe_callS G_execute (hr.mono (by omega)) rfl T.execute.g T.execute.F.kp T.execute.b (fun σ => passAt tk σ) (by exact (pa_cons (pv 0) (pa_cons (pv 1) (pa_cons (pv 2) pa_nil))))))))
    (fun b oe cls d pn hz hf => pss_one (ps_ret pe_str)))
  (pss_cons (ps_if (PW.pt (pw_or (pt_not (pt_val (pe_callB call_isi (by rfl) T.isinstance (by decide +kernel) (pa_cons (pv 4) (pa_cons (pe_bltn (v := .ty "list") rfl T.list (by decide +kernel) rfl) pa_nil))))) (pw_or1 (pt_cmpR op_ne (pe_callB (GX.call_reprD hg hr.units) (by rfl) T.repr (by decide +kernel) (pa_cons (pv 2) pa_nil)) (pv 3) (nomark _))))) (pss_one (ps_ret pe_str)) pss_nil)
  (pss_cons (ps_setLc (i := 5) (own := [("item", 6)]) (g := gName 6) (tt := tYes) rfl nd rfl rfl (sw_true rfl rfl rfl (by decide +kernel)) (pi_list (pv 4)) (blkOk_by (N := ["name", "extra", "inputs", "before", "out", "told", "item"]) (sc := defScope s_law_told) (by decide +kernel)) (fun _ _ _ _ _ => (pg_name (i := 6) nd rfl (Or.inl rfl))) (fun _ _ _ _ _ => pts_nil) (fun _ _ _ _ _ => (pv 6)))
  (pss_cons (ps_expr (pe_bm PySem.F.plainAttrs_list PySem.F.slot_list_append PySem.F.type_list_append mt_append (pv 4) (pa_cons pe_int pa_nil)))
  (pss_cons (ps_if (pt_cmpR op_ne (pe_callB (GX.call_reprD hg hr.units) (by rfl) T.repr (by decide +kernel) (pa_cons (pv 2) pa_nil)) (pv 3) (nomark _)) (pss_one (ps_ret pe_str)) pss_nil)
  (pss_one (ps_ret (pv 5))))))))), ?_⟩
  refine ⟨_, rfl, p, inp xss, rfl, shown H (fun _ _ x => x), SH.ok, SH.nd, Nat.le_trans SH.dp (by decide), Nat.le_trans SH.ln (by decide), ?_⟩
  refine ⟨_, rfl, _, rfl, _, rfl, s0, ex, _, pr, res, rfl, hin, ex, p, as, xss, rfl, hp, hv, hpr, fun out eo H1 r s1 nr hr1 => ?_, fun eo H1 s1 => ?_⟩
  · have hl : (iv out).length ≤ NN := by rw [iv_len]; exact hnn out eo
    refine ⟨_, rfl, _, _, _, _, true, rfl, .ty "list", .base (.lst hr1), isLst, ?_⟩
    refine ⟨_, rfl, _, rfl, p, inp xss, rfl, shown H1 s1, SH.ok, SH.nd, Nat.le_trans SH.dp (by decide), Nat.le_trans SH.ln (by decide), ?_⟩
    refine ⟨_, rfl, rfl, _, rfl, ?_⟩
    refine ifF (by rw [decide_eq_true rfl]; rfl) ?_
    refine ⟨_, rfl, r, rfl, ⟨_, SqL.of hr1⟩, fun D nD => lc_it (walk_list (K := K) (a := r) (xs := iv out)) (fun i H2 => Same H1 H2 ∧ H2 D = some (.lst (iv (out.take i)))) ⟨same_new nD _, by rw [List.take_zero]; exact upd_same⟩ (fun i H2 _ h => h.1.seq (SqL.of hr1)) ?_ ?_⟩
    · rintro i x H2 H3 hi ⟨sm, hD⟩ ⟨rfl, hx⟩
      obtain ⟨m, hm, rfl⟩ := iv_get hx
      refine ⟨rfl, _, rfl, tick sm nD hD (fun _ _ e => e) ?_ ?_⟩
      · rw [List.take_add_one, hm]; simp [iv]
      · rw [iv_len, List.length_take]; rw [iv_len] at hl; omega
    · rintro H2 ⟨sm, hD⟩
      rw [iv_len, List.take_length] at hD
      have nDr : D ≠ r := (ne_of_none hr1 nD).symm
      have s12 := s1.trans sm
      have hr2 := sm _ _ hr1
      have s3 : Same H (upd H2 r (.lst (iv out ++ [.int 3]))) := fun b o eb => by
        rw [upd_ne (ne_of_none eb nr)]; exact s12 _ _ eb
      have hDn : H D = none := by
        cases z : H D with
        | none => rfl
        | some o => have := s1 _ _ z; rw [nD] at this; cases this
      refine ⟨_, rfl, .inl ⟨rfl, _, SqL.of hr2⟩, r, _, _, rfl, rfl, hr2, Nat.lt_of_le_of_lt hl (by decide), ?_⟩
      refine ⟨_, rfl, p, inp xss, rfl, shown _ s3, SH.ok, SH.nd, Nat.le_trans SH.dp (by decide), Nat.le_trans SH.ln (by decide), ?_⟩
      refine ⟨_, rfl, rfl, _, rfl, ?_⟩
      refine ifF (by rw [decide_eq_true rfl]; rfl) ?_
      exact ⟨_, rfl, q out eo _ D s3 hDn (by rw [upd_ne nDr]; exact hD)⟩
  · refine ⟨true, exm_of T.bT T.iT T.tT T.sT, fun _ b hb => ?_, fun z => nomatch z⟩
    exact e eo H1 s1
end
end K6

namespace K6
open PySem PySem.Spec PyProof.Rows L2
theorem seg_rng {ls : List Int} (hL : Lens ls) {i : Nat} (hi : i < ls.length) (lo : Int) {n : Int} (hn : ls.sum ≤ n) : segI ls (rng lo n) i = rng (lo + pre ls i) (at_ ls i) := by
  have a := hL.prf i
  have b := hL.seg hi
  have c := (pre_le hL.mem (i + 1)).2
  rw [pre_succ hi] at c
  unfold segI rng
  obtain ⟨s, es⟩ := Int.eq_ofNat_of_zero_le a.1
  obtain ⟨m, em⟩ := Int.eq_ofNat_of_zero_le b.1
  rw [es, em] at c ⊢
  rw [← List.map_drop, ← List.map_take]
  refine List.ext_getElem (by simp; omega) fun k h1 h2 => ?_
  simp
  omega
theorem segs_get {ls row : List Int} {i : Nat} (hi : i < ls.length) : ((List.range ls.length).map (segI ls row))[i]? = some (segI ls row i) := by
  rw [List.getElem?_map, List.getElem?_range hi]; rfl
section
variable {P : Program} {w : World} {K : PySem.W.Frag} {mg : Str → Option Value} {base : Heap} {a : Ad}
theorem ok_law_wrap (T : Txt w K mg a) : FnOk P w K mg base CX0 1 a.law_wrap.1 a.law_wrap.2 ["n"] spWrapped := by
  refine T.law_wrap.F.ok sc_law_wrap (fun vs H Q E h => ?_) (fun cdv A outer s H vs Q E hr h => ?_)
  · obtain ⟨n, rfl, _⟩ := h
    rfl
  obtain ⟨n, rfl, q⟩ := h
  refine ⟨_, (pss_one (ps_ret (pe_op op_sub (pe_op op_mod (pe_callTy call_int1 (by rfl) T.int (by decide +kernel) (pa_cons (pe_op op_add (pv 0) pe_int) pa_nil)) pe_int) pe_int))), ?_⟩
  exact ⟨_, rfl, _, _, rfl, rfl, .inl ⟨_, rfl, _, _, rfl, rfl, (by show (0 : Int) < 4294967296; decide), _, _, rfl, rfl, q⟩⟩
def spSegs (K : PySem.W.Frag) : Sp := fun vs H Q _ => ∃ (p r : Addr) (ls row : List Int), vs = [.ref p, .ref r] ∧ SqL K H p (iv ls) ∧ SqL K H r (iv row) ∧ Lens ls ∧ ls.sum ≤ row.length ∧
  ∀ (H' : Hp) (q : Addr) (as : List Addr), Same H H' → H q = none → H' q = some (.lst (as.map V.ref)) → VecsAt K H' as ((List.range ls.length).map (segI ls row)) → Q (.ref q) H'
theorem ok_law_segments (T : Txt w K mg a) : FnOk P w K mg base CX0 1 a.law_segments.1 a.law_segments.2 ["lengths", "row"] (spSegs K) := by
  refine T.law_segments.F.ok sc_law_segments (fun vs H Q E h => ?_) (fun cdv A outer s H vs Q E hr h => ?_)
  · obtain ⟨_, _, _, _, rfl, _⟩ := h
    rfl
  obtain ⟨p, r, ls, row, rfl, hp, hrow, hL, hsum, q⟩ := h
  have nd := sc_law_segments.nd
  refine ⟨_, (pss_cons (ps_set (i := 2) nd rfl (Or.inl rfl) (pe_lst pa_nil))
  (pss_cons (ps_set (i := 3) nd rfl (Or.inl rfl) pe_int)
  (pss_cons (ps_for PassesOwn.never rfl (pi_list (pv 0)) (pg_name (i := 4) nd rfl (Or.inl rfl)) (pss_cons (ps_expr (pe_bm PySem.F.plainAttrs_list PySem.F.slot_list_append PySem.F.type_list_append mt_append (pv 2) (pa_cons (pe_slice sl_list (pv 1) (po_some (pv 3)) (po_some (pe_op op_add (pv 3) (pv 4)))) pa_nil)))
  (pss_one (ps_set (i := 3) nd rfl (Or.inl rfl) (pe_op op_add (pv 3) (pv 4))))))
  (pss_one (ps_ret (pv 2)))))), ?_⟩
  refine ⟨(by show 0 ≤ sizeLine; decide), fun z nz => ?_⟩
  refine ⟨_, rfl, p, rfl, ⟨_, (same_new nz _).seq hp⟩, for_list (K := K) (a := p) (xs := iv ls) (fun i σ H1 => ∃ (v4 : Option V) (as : List Addr), σ = [some (.ref p), some (.ref r), some (.ref z), some (.int (pre ls i)), v4] ∧ Same H H1 ∧ H1 z = some (.lst (as.map V.ref)) ∧ z ∉ as ∧ VecsAt K H1 as ((List.range i).map (segI ls row))) ⟨none, [], rfl, same_new nz _, upd_same, List.not_mem_nil, trivial⟩ (fun i σ H1 _ h => by obtain ⟨_, _, _, sm, _⟩ := h; exact sm.seq hp) ?_ ?_⟩
  · rintro i y σ H1 hi ⟨v4, as, rfl, sm, hz, zn, hv⟩
    obtain ⟨n, hn, rfl⟩ := iv_get hi
    have il := (List.getElem?_eq_some_iff.mp hn).1
    have a1 := hL.prf i
    have a2 := hL.seg il
    have b1 := (pre_le hL.mem (i + 1)).2
    rw [pre_succ il] at b1
    refine ⟨_, rfl, .inl ⟨rfl, _, SqL.of hz⟩, ?_⟩
    refine ⟨_, rfl, _, rfl, _, rfl, _, rfl, _, rfl, _, _, rfl, rfl, _, rfl, r, _, rfl, sm.seq hrow, fun d hd => ?_⟩
    rw [← at_some hn, cut_iv row a1.1 a2.1 (by omega)]
    have sd := same_new hd (.lst (iv ((row.drop (pre ls i).toNat).take (at_ ls i).toNat)))
    have ndz : d ≠ z := (ne_of_none hz hd).symm
    have la : as.length = i := by rw [hv.len, List.length_map, List.length_range]
    have hz' : (upd H1 d (.lst (iv ((row.drop (pre ls i).toNat).take (at_ ls i).toNat)))) z = some (.lst (as.map V.ref)) := by rw [upd_ne ndz.symm]; exact hz
    refine ⟨z, _, _, rfl, rfl, hz', ?_, ?_⟩
    · rw [List.length_map, la]
      exact Nat.lt_of_lt_of_le (Nat.lt_of_lt_of_le il hL.ln) (by decide)
    refine ⟨_, rfl, _, rfl, _, _, rfl, rfl, some (.int (at_ ls i)), as ++ [d], ?_, fun b o eb => ?_, ?_, ?_, ?_⟩
    · rw [pre_succ il]; rfl
    · rw [upd_ne (ne_of_none eb nz)]; exact sd _ _ (sm _ _ eb)
    · rw [upd_same, List.map_append]; rfl
    · intro m
      rcases List.mem_append.mp m with m | m
      · exact zn m
      · exact ndz (List.mem_singleton.mp m).symm
    · rw [List.range_succ, List.map_append]
      refine VecsAt.upd (VecsAt.snoc upd_same (hv.same sd)) fun m => ?_
      rcases List.mem_append.mp m with m | m
      · exact zn m
      · exact ndz (List.mem_singleton.mp m).symm
  · rintro σ H1 ⟨v4, as, rfl, sm, hz, zn, hv⟩
    rw [iv_len] at hv
    exact ⟨_, rfl, q H1 z as sm nz hz hv⟩
end
end K6

namespace K6
open PySem PySem.Spec PyProof.Rows L2
theorem pre_full (ls : List Int) : pre ls ls.length = ls.sum := by unfold pre; rw [List.take_length]
theorem one_by (f : Nat → Int) (n : Nat) : (List.range n).flatMap (fun i => [f i]) = (List.range n).map f := by
  induction n with
  | zero => rfl
  | succ n ih => rw [List.range_succ, List.flatMap_append, List.map_append, ih]; simp
/-- the state of the loop: what has been written so far -/
def SI (K : PySem.W.Frag) (nm : Str) (lp p ix : Addr) (tot : Int) (v4 : Option V) (H1 : Hp) (f : Nat → List Int) (i : Nat) (σ : L2.St) (H2 : Hp) : Prop :=
  ∃ (z : Addr) (v5 v8 v9 v10 v11 v12 v13 : Option V), σ = [some (.str nm), some (.ref lp), some (.ref p), some (.int tot), v4, v5, some (.ref ix), some (.ref z), v8, v9, v10, v11, v12, v13] ∧ Same H1 H2 ∧ H1 z = none ∧ H2 z = some (.lst (iv ((List.range i).flatMap f)))
theorem some_free {H H1 : Hp} {q : Addr} (s : Same H H1) (n : H1 q = none) : H q = none := by
  cases z : H q with
  | none => rfl
  | some o => have := s _ _ z; rw [n] at this; cases this
def segNames : List Str := ["repeat", "count", "sums", "zip", "place", "pick"]
def spDueSeg (K : PySem.W.Frag) : Sp := fun vs H Q _ => ∃ (s : Str) (lp p : Addr) (as : List Addr) (ls : List Int) (xss : List (List Int)) (pr : PrT) (res : ReT), vs = [.str s, .ref lp, .ref p] ∧ Ins s pr res ∧ s ∈ segNames ∧ SqL K H lp (iv ls) ∧ xss.headD [] = ls ∧ SqL K H p (as.map V.ref) ∧ VecsAt K H as xss ∧ pr .non xss ∧
  (∀ out, res .non xss = some out → ∀ (H' : Hp) (q : Addr), Same H H' → H' q = some (.lst (iv out)) → Q (.ref q) H') ∧ (res .non xss = none → ∀ H', Same H H' → Q (.str "trap") H')
section
variable {P : Program} {w : World} {K : PySem.W.Frag} {mg : Str → Option Value} {base : Heap} {a : Ad}
theorem ok_law_due_segments (T : Txt w K mg a) : FnOk P w K mg base CX0 2 a.law_due_segments.1 a.law_due_segments.2 ["name", "lengths", "inputs"] (spDueSeg K) := by
  refine T.law_due_segments.F.ok sc_law_due_segments (fun vs H Q E h => ?_) (fun cdv A outer s H vs Q E hr h => ?_)
  · obtain ⟨_, _, _, _, _, _, _, _, rfl, _⟩ := h
    rfl
  obtain ⟨nm, lp, p, as, ls, xss, pr, res, rfl, hin, hnm, hlp, hls, hp, hv, hpr, q, e⟩ := h
  have nd := sc_law_due_segments.nd
  have G_law_segments := ok_law_segments (P := P) (w := w) (base := base) T
  have G_law_wrap := ok_law_wrap (P := P) (w := w) (base := base) T
  have hL : Lens ls := by
    subst hls
    cases hin <;> first
      | exact absurd hnm (by decide +kernel)
      | (obtain ⟨_, rfl, h⟩ := hpr; exact h)
      | (obtain ⟨_, _, rfl, h, _⟩ := hpr; exact h)
  refine ⟨_, (pss_cons (ps_set (i := 3) nd rfl (Or.inr rfl) pe_int)
  (pss_cons (ps_for PassesOwn.never rfl (pi_list (pv 1)) (pg_name (i := 4) nd rfl (Or.inl rfl)) (pss_one (ps_set (i := 3) nd rfl (Or.inr rfl) (pe_op op_add (pv 3) (pv 4)))))
  (pss_cons (ps_set (i := 6) nd rfl (Or.inl rfl) (pe_call G_law_segments (hr.mono (by omega)) rfl T.law_segments.g T.law_segments.F.kp T.law_segments.b .nil pass0 (pa_cons (pv 1) (pa_cons (pe_lc (own := [("k", 5)]) (g := gName 5) (tt := tYes) rfl nd (pi_range1 rfl T.range (pa_cons (pv 3) pa_nil)) (blkOk_by (N := ["name", "lengths", "inputs", "total", "length", "k", "indexes", "out", "at", "row", "many", "item", "other", "others"]) (sc := defScope s_law_due_segments) (by decide +kernel)) (fun _ _ _ _ _ => (pg_name (i := 5) nd rfl (Or.inl rfl))) (fun _ _ _ _ _ => pts_nil) (fun _ _ _ _ _ => (pv 5))) pa_nil))))
  (pss_cons (ps_set (i := 7) nd rfl (Or.inl rfl) (pe_lst pa_nil))
  (pss_cons (ps_for PassesOwn.never rfl (pi_range1 rfl T.range (pa_cons (pe_callB call_len_seq (by rfl) T.len PySem.boot_len (pa_cons (pv 1) pa_nil)) pa_nil)) (pg_name (i := 8) nd rfl (Or.inr rfl)) (pss_cons (ps_if (pt_cmpR op_eq (pv 0) pe_str (nomark _)) (pss_one (ps_set (i := 7) nd rfl (Or.inl rfl) (pe_op op_cat (pv 7) (pe_lc (own := [("k", 5)]) (g := gName 5) (tt := tYes) rfl nd (pi_list (pe_ix ix_list (pv 6) (pv 8) (fun _ _ => rfl))) (blkOk_by (N := ["name", "lengths", "inputs", "total", "length", "k", "indexes", "out", "at", "row", "many", "item", "other", "others"]) (sc := defScope s_law_due_segments) (by decide +kernel)) (fun _ _ _ _ _ => (pg_name (i := 5) nd rfl (Or.inl rfl))) (fun _ _ _ _ _ => pts_nil) (fun _ _ _ _ _ => (pv 8)))))) pss_nil)
  (pss_cons (ps_if (pt_cmpR op_eq (pv 0) pe_str (nomark _)) (pss_one (ps_set (i := 7) nd rfl (Or.inl rfl) (pe_op op_cat (pv 7) (pe_lc (own := [("k", 5)]) (g := gName 5) (tt := tYes) rfl nd (pi_range1 rfl T.range (pa_cons (pe_ix ix_list (pv 1) (pv 8) (fun _ _ => rfl)) pa_nil)) (blkOk_by (N := ["name", "lengths", "inputs", "total", "length", "k", "indexes", "out", "at", "row", "many", "item", "other", "others"]) (sc := defScope s_law_due_segments) (by decide +kernel)) (fun _ _ _ _ _ => (pg_name (i := 5) nd rfl (Or.inl rfl))) (fun _ _ _ _ _ => pts_nil) (fun _ _ _ _ _ => (pv 5)))))) pss_nil)
  (pss_cons (ps_if (pt_cmpR op_eq (pv 0) pe_str (nomark _)) (pss_cons (ps_set (i := 9) nd rfl (Or.inl rfl) (pe_ix ix_list (pe_call G_law_segments (hr.mono (by omega)) rfl T.law_segments.g T.law_segments.F.kp T.law_segments.b .nil pass0 (pa_cons (pv 1) (pa_cons (pe_ix ix_list (pv 2) pe_int (fun _ _ => rfl)) pa_nil))) (pv 8) (fun _ _ => rfl)))
  (pss_cons (ps_set (i := 10) nd rfl (Or.inl rfl) pe_int)
  (pss_cons (ps_for PassesOwn.never rfl (pi_list (pv 9)) (pg_name (i := 11) nd rfl (Or.inl rfl)) (pss_one (ps_set (i := 10) nd rfl (Or.inl rfl) (pe_op op_add (pv 10) (pv 11)))))
  (pss_one (ps_expr (pe_bm PySem.F.plainAttrs_list PySem.F.slot_list_append PySem.F.type_list_append mt_append (pv 7) (pa_cons (pe_call G_law_wrap (hr.mono (by omega)) rfl T.law_wrap.g T.law_wrap.F.kp T.law_wrap.b .nil pass0 (pa_cons (pv 10) pa_nil)) pa_nil))))))) pss_nil)
  (pss_cons (ps_if (pt_cmpR op_eq (pv 0) pe_str (nomark _)) (pss_cons (ps_set (i := 10) nd rfl (Or.inl rfl) pe_int)
  (pss_cons (ps_for PassesOwn.never rfl (pi_list (pe_ix ix_list (pv 2) pe_int (fun _ _ => rfl))) (pg_name (i := 12) nd rfl (Or.inl rfl)) (pss_one (ps_set (i := 10) nd rfl (Or.inl rfl) (pe_op op_add (pv 10) (pv 12)))))
  (pss_cons (ps_set (i := 13) nd rfl (Or.inl rfl) (pe_call G_law_segments (hr.mono (by omega)) rfl T.law_segments.g T.law_segments.F.kp T.law_segments.b .nil pass0 (pa_cons (pe_ix ix_list (pv 2) pe_int (fun _ _ => rfl)) (pa_cons (pe_lc (own := [("k", 5)]) (g := gName 5) (tt := tYes) rfl nd (pi_range1 rfl T.range (pa_cons (pv 10) pa_nil)) (blkOk_by (N := ["name", "lengths", "inputs", "total", "length", "k", "indexes", "out", "at", "row", "many", "item", "other", "others"]) (sc := defScope s_law_due_segments) (by decide +kernel)) (fun _ _ _ _ _ => (pg_name (i := 5) nd rfl (Or.inl rfl))) (fun _ _ _ _ _ => pts_nil) (fun _ _ _ _ _ => (pe_op op_add (pv 3) (pv 5)))) pa_nil))))
  (pss_one (ps_set (i := 7) nd rfl (Or.inl rfl) (pe_op op_cat (pe_op op_cat (pv 7) (pe_ix ix_list (pv 6) (pv 8) (fun _ _ => rfl))) (pe_ix ix_list (pv 13) (pv 8) (fun _ _ => rfl)))))))) pss_nil)
  (pss_one (ps_if (pt_cmpR op_eq (pv 0) pe_str (nomark _)) (pss_cons (ps_if (PW.pt (pw_or (pt_cmpR op_lt (pe_ix ix_list (pe_ix ix_list (pv 2) pe_int (fun _ _ => rfl)) (pv 8) (fun _ _ => rfl)) pe_int (nomark _)) (pw_or1 (pt_cmpR op_ge (pe_ix ix_list (pe_ix ix_list (pv 2) pe_int (fun _ _ => rfl)) (pv 8) (fun _ _ => rfl)) (pe_ix ix_list (pv 1) (pv 8) (fun _ _ => rfl)) (nomark _))))) (pss_one (ps_ret pe_str)) pss_nil)
  (pss_one (ps_expr (pe_bm PySem.F.plainAttrs_list PySem.F.slot_list_append PySem.F.type_list_append mt_append (pv 7) (pa_cons (pe_ix ix_list (pe_ix ix_list (pv 6) (pv 8) (fun _ _ => rfl)) (pe_ix ix_list (pe_ix ix_list (pv 2) pe_int (fun _ _ => rfl)) (pv 8) (fun _ _ => rfl)) (fun _ _ => rfl)) pa_nil))))) pss_nil)))))))
  (pss_cons (ps_if (pt_cmpR op_eq (pv 0) pe_str (nomark _)) (pss_one (ps_for PassesOwn.never rfl (pi_list (pe_ix ix_list (pv 2) pe_int (fun _ _ => rfl))) (pg_name (i := 5) nd rfl (Or.inl rfl)) (pss_one (ps_set (i := 7) nd rfl (Or.inl rfl) (pe_op op_cat (pv 7) (pe_ix ix_list (pv 6) (pv 5) (fun _ _ => rfl))))))) pss_nil)
  (pss_one (ps_ret (pv 7))))))))), ?_⟩
  refine ⟨_, rfl, lp, rfl, ⟨_, hlp⟩, for_list (K := K) (a := lp) (xs := iv ls) (fun i σ H1 => ∃ v4 : Option V, σ = [some (.str nm), some (.ref lp), some (.ref p), some (.int (pre ls i)), v4, none, none, none, none, none, none, none, none, none] ∧ H1 = H) ⟨none, rfl, rfl⟩ (fun i σ H1 _ h => by obtain ⟨_, _, rfl⟩ := h; exact hlp) ?_ ?_⟩
  · rintro i y σ H1 hi ⟨v4, rfl, rfl⟩
    obtain ⟨n, hn, rfl⟩ := iv_get hi
    have il := (List.getElem?_eq_some_iff.mp hn).1
    refine ⟨_, rfl, _, rfl, _, _, rfl, rfl, some (.int n), ?_, rfl⟩
    rw [pre_succ il, at_some hn]
    rfl
  rintro σ H1 ⟨v4, rfl, rfl⟩
  rw [iv_len, pre_full]
  have sm0 := hL.sm
  have nn0 := sum_nn hL.mem
  refine ⟨_, rfl, _, rfl, _, rfl, by omega, by unfold NN at *; omega, fun D nD => lc_it (walk_range (lo := 0) (n := ls.sum.toNat)) (fun j H3 => Same H1 H3 ∧ H3 D = some (.lst (iv ((List.range j).map fun (k : Nat) => 0 + (k : Int))))) ⟨same_new nD _, upd_same⟩ (fun _ _ _ _ => trivial) ?_ ?_⟩
  · rintro j x H3 H4 hj ⟨sm3, hD3⟩ ⟨rfl, rfl⟩
    refine ⟨rfl, _, rfl, tick sm3 nD hD3 (fun _ _ e => e) (mapR (fun k => 0 + (k : Int)) j) ?_⟩
    rw [iv_len, List.length_map, List.length_range]; omega
  rintro H3 ⟨sm3, hD3⟩
  have hix0 : H3 D = some (.lst (iv (rng 0 ls.sum))) := hD3
  refine ⟨lp, D, ls, rng 0 ls.sum, rfl, sm3.seq hlp, SqL.of hix0, hL, by rw [rng_len]; omega, fun H4 ix ixs s4 nix hix hvx => ?_⟩
  refine ⟨(by show 0 ≤ sizeLine; decide), fun z nz => ?_⟩
  have s14 := sm3.trans s4
  have sz := same_new nz (.lst [])
  have s1z := s14.trans sz
  have lp4 := s14.seq hlp
  have ixa : ∀ i, i < ls.length → ∃ b, atI (ixs.map V.ref) (0 + (i : Int)) = some (.ref b) ∧ H4 b = some (.lst (iv (rng (pre ls i) (at_ ls i)))) := fun i hi => by
    obtain ⟨b, e1, e2⟩ := hvx.get (segs_get hi)
    rw [seg_rng hL hi 0 (Int.le_refl _), Int.zero_add] at e2
    exact ⟨b, by rw [Int.zero_add]; exact atI_nat (by rw [List.getElem?_map, e1]; rfl), e2⟩
  have lsa : ∀ i, i < ls.length → atI (iv ls) (0 + (i : Int)) = some (.int (at_ ls i)) := fun i hi => by
    rw [Int.zero_add]; exact atI_nat (get_iv (at_get hi))
  refine ⟨_, rfl, lp, _, rfl, .inl (s1z.seq hlp), ?_⟩
  cases hin with
  | fill => exact absurd hnm (by decide +kernel)
  | calc_ => exact absurd hnm (by decide +kernel)
  | take_ => exact absurd hnm (by decide +kernel)
  | where_ => exact absurd hnm (by decide +kernel)
  | weave => exact absurd hnm (by decide +kernel)
  | join_ => exact absurd hnm (by decide +kernel)
  | need_range => exact absurd hnm (by decide +kernel)
  | need_same => exact absurd hnm (by decide +kernel)
  | flags => exact absurd hnm (by decide +kernel)
  | repeat_ =>
    obtain ⟨ls', rfl, hL'⟩ := hpr
    obtain rfl : ls = ls' := hls.symm
    refine ⟨_, rfl, Int.natCast_nonneg _, by rw [iv_len]; have := hL.ln; unfold NN at *; omega, for_it (walk_range (lo := 0) (n := (iv ls).length)) (SI K "repeat" lp p ix ls.sum v4 H4 (fun i => List.replicate (at_ ls i).toNat (i : Int))) ⟨z, none, none, none, none, none, none, none, rfl, sz, nz, upd_same⟩ (fun _ _ _ _ _ => trivial) ?_ ?_⟩
    · rintro i x σ H0 H5 hi ⟨w, v5, v8, v9, v10, v11, v12, v13, rfl, s5, nw, hw⟩ ⟨rfl, rfl⟩
      rw [iv_len] at hi
      obtain ⟨bi, ei, hbi⟩ := ixa i hi
      have li := lsa i hi
      refine ⟨_, rfl, rfl, _, rfl, ?_⟩
      refine ifT (by decide +kernel) ?_
      refine ⟨_, rfl, _, rfl, _, rfl, ix, _, _, _, rfl, rfl, SqL.of (s5 _ _ hix), ei, bi, rfl, ⟨_, SqL.of (s5 _ _ hbi)⟩, fun D2 nD2 => lc_it (walk_list (K := K) (a := bi) (xs := iv (rng (pre ls i) (at_ ls i)))) (fun j H6 => Same H5 H6 ∧ H6 D2 = some (.lst (iv (List.replicate j (i : Int))))) ⟨same_new nD2 _, upd_same⟩ (fun j H6 _ h => SqL.of (h.1 _ _ (s5 _ _ hbi))) ?_ ?_⟩
      · rintro j x H6 H7 hj ⟨sm6, hD6⟩ ⟨rfl, hx⟩
        rw [iv_len, rng_len] at hj
        have := hL.seg hi
        have := hL.prf i
        refine ⟨rfl, _, rfl, tick sm6 nD2 hD6 (fun _ _ e => e) (by show iv (List.replicate j (i : Int)) ++ [V.int (0 + (i : Int))] = _; rw [Int.zero_add]; simp [iv, List.replicate_succ']) ?_⟩
        rw [iv_len, List.length_replicate]; omega
      rintro H6 ⟨sm6, hD6⟩
      rw [iv_len, rng_len] at hD6
      refine ⟨w, D2, _, _, rfl, rfl, sm6 _ _ hw, hD6, ?_, fun d nd' => ?_⟩
      · rw [iv_len, iv_len, List.length_replicate, rep_pre hL (by omega)]
        have := hL.seg hi
        have := hL.prf i
        have : NN ≤ sizeLine := by decide
        omega
      refine ⟨_, rfl, rfl, _, rfl, ?_⟩
      refine ifF (by decide +kernel) ?_
      refine ⟨_, rfl, rfl, _, rfl, ?_⟩
      refine ifF (by decide +kernel) ?_
      refine ⟨_, rfl, rfl, _, rfl, ?_⟩
      refine ifF (by decide +kernel) ?_
      refine ⟨_, rfl, rfl, _, rfl, ?_⟩
      refine ifF (by decide +kernel) ?_
      refine ⟨d, v5, _, v9, v10, v11, v12, v13, rfl, (s5.trans sm6).trans (same_new nd' _), some_free (s5.trans sm6) nd', ?_⟩
      rw [upd_same, ← flatR]
    · rintro σ H5 ⟨w, v5, v8, v9, v10, v11, v12, v13, rfl, s5, nw, hw⟩
      rw [iv_len] at hw
      refine ⟨_, rfl, rfl, _, rfl, ?_⟩
      refine ifF (by decide +kernel) ?_
      exact ⟨_, rfl, q _ rfl H5 w (s14.trans s5) hw⟩
  | count_ =>
    obtain ⟨ls', rfl, hL'⟩ := hpr
    obtain rfl : ls = ls' := hls.symm
    refine ⟨_, rfl, Int.natCast_nonneg _, by rw [iv_len]; have := hL.ln; unfold NN at *; omega, for_it (walk_range (lo := 0) (n := (iv ls).length)) (SI K "count" lp p ix ls.sum v4 H4 (fun i => rng 0 (at_ ls i))) ⟨z, none, none, none, none, none, none, none, rfl, sz, nz, upd_same⟩ (fun _ _ _ _ _ => trivial) ?_ ?_⟩
    · rintro i x σ H0 H5 hi ⟨w, v5, v8, v9, v10, v11, v12, v13, rfl, s5, nw, hw⟩ ⟨rfl, rfl⟩
      rw [iv_len] at hi
      obtain ⟨bi, ei, hbi⟩ := ixa i hi
      have li := lsa i hi
      refine ⟨_, rfl, rfl, _, rfl, ?_⟩
      refine ifF (by decide +kernel) ?_
      refine ⟨_, rfl, rfl, _, rfl, ?_⟩
      refine ifT (by decide +kernel) ?_
      have a1 := hL.seg hi
      have a2 := hL.prf i
      refine ⟨_, rfl, _, rfl, _, rfl, lp, _, _, _, rfl, rfl, s5.seq lp4, li, _, rfl, by omega, by unfold NN at *; omega, fun D2 nD2 => lc_it (walk_range (lo := 0) (n := (at_ ls i).toNat)) (fun j H6 => Same H5 H6 ∧ H6 D2 = some (.lst (iv ((List.range j).map fun (k : Nat) => 0 + (k : Int))))) ⟨same_new nD2 _, upd_same⟩ (fun _ _ _ _ => trivial) ?_ ?_⟩
      · rintro j x H6 H7 hj ⟨sm6, hD6⟩ ⟨rfl, rfl⟩
        refine ⟨rfl, _, rfl, tick sm6 nD2 hD6 (fun _ _ e => e) (mapR (fun k => 0 + (k : Int)) j) ?_⟩
        rw [iv_len, List.length_map, List.length_range]; omega
      rintro H6 ⟨sm6, hD6⟩
      refine ⟨w, D2, _, _, rfl, rfl, sm6 _ _ hw, hD6, ?_, fun d nd' => ?_⟩
      · rw [iv_len, iv_len, List.length_map, List.length_range, flat_pre hL (lo := fun _ => 0) (by omega)]
        have : NN ≤ sizeLine := by decide
        omega
      refine ⟨_, rfl, rfl, _, rfl, ?_⟩
      refine ifF (by decide +kernel) ?_
      refine ⟨_, rfl, rfl, _, rfl, ?_⟩
      refine ifF (by decide +kernel) ?_
      refine ⟨_, rfl, rfl, _, rfl, ?_⟩
      refine ifF (by decide +kernel) ?_
      refine ⟨d, v5, _, v9, v10, v11, v12, v13, rfl, (s5.trans sm6).trans (same_new nd' _), some_free (s5.trans sm6) nd', ?_⟩
      rw [upd_same, ← flatR]
      rfl
    · rintro σ H5 ⟨w, v5, v8, v9, v10, v11, v12, v13, rfl, s5, nw, hw⟩
      rw [iv_len] at hw
      refine ⟨_, rfl, rfl, _, rfl, ?_⟩
      refine ifF (by decide +kernel) ?_
      exact ⟨_, rfl, q _ rfl H5 w (s14.trans s5) hw⟩
  | sums =>
    obtain ⟨ls', v, rfl, hL', hsum⟩ := hpr
    obtain rfl : ls = ls' := hls.symm
    obtain ⟨b, c, rfl, hb, hc, hb', hc'⟩ := hv.two
    have hp4 := s14.seq hp
    have hc4 := s14 _ _ hc'
    refine ⟨_, rfl, Int.natCast_nonneg _, by rw [iv_len]; have := hL.ln; unfold NN at *; omega, for_it (walk_range (lo := 0) (n := (iv ls).length)) (SI K "sums" lp p ix ls.sum v4 H4 (fun i => [sumI ls v i])) ⟨z, none, none, none, none, none, none, none, rfl, sz, nz, upd_same⟩ (fun _ _ _ _ _ => trivial) ?_ ?_⟩
    · rintro i x σ H0 H5 hi ⟨w, v5, v8, v9, v10, v11, v12, v13, rfl, s5, nw, hw⟩ ⟨rfl, rfl⟩
      rw [iv_len] at hi
      obtain ⟨bi, ei, hbi⟩ := ixa i hi
      have li := lsa i hi
      refine ⟨_, rfl, rfl, _, rfl, ?_⟩
      refine ifF (by decide +kernel) ?_
      refine ⟨_, rfl, rfl, _, rfl, ?_⟩
      refine ifF (by decide +kernel) ?_
      refine ⟨_, rfl, rfl, _, rfl, ?_⟩
      refine ifT (by decide +kernel) ?_
      refine ⟨_, rfl, _, rfl, p, _, _, _, rfl, rfl, s5.seq hp4, rfl, lp, c, ls, v, rfl, s5.seq lp4, SqL.of (s5 _ _ hc4), hL, by omega, fun H6 sg sgs s6 nsg hsg hvs => ?_⟩
      obtain ⟨br, er, hbr⟩ := hvs.get (segs_get hi)
      refine ⟨_, rfl, sg, _, _, _, rfl, rfl, SqL.of hsg, (by rw [Int.zero_add]; exact atI_nat (by rw [List.getElem?_map, er]; rfl)), ?_⟩
      refine ⟨_, rfl, br, rfl, ⟨_, SqL.of hbr⟩, for_list (K := K) (a := br) (xs := iv (segI ls v i)) (fun j σ H7 => ∃ v11 : Option V, σ = [some (.str "sums"), some (.ref lp), some (.ref p), some (.int ls.sum), v4, v5, some (.ref ix), some (.ref w), some (.int (0 + (i : Int))), some (.ref br), some (.int (pre (segI ls v i) j)), v11, v12, v13] ∧ H7 = H6) ⟨v11, rfl, rfl⟩ (fun _ _ _ _ h => by obtain ⟨_, _, rfl⟩ := h; exact SqL.of hbr) ?_ ?_⟩
      · rintro j y σ H7 hj ⟨u11, rfl, rfl⟩
        obtain ⟨n, hn, rfl⟩ := iv_get hj
        have jl := (List.getElem?_eq_some_iff.mp hn).1
        refine ⟨_, rfl, _, rfl, _, _, rfl, rfl, some (.int n), ?_, rfl⟩
        rw [pre_succ jl, at_some hn]
        rfl
      rintro σ H7 ⟨u11, rfl, rfl⟩
      rw [iv_len, pre_full]
      have hw7 := s6 _ _ hw
      refine ⟨_, rfl, .inl ⟨rfl, _, SqL.of hw7⟩, _, rfl, _, rfl, w, _, _, rfl, rfl, hw7, ?_, ?_⟩
      · rw [iv_len, one_by, List.length_map, List.length_range]
        exact Nat.lt_of_lt_of_le (Nat.lt_of_lt_of_le hi hL.ln) (by decide)
      refine ⟨_, rfl, rfl, _, rfl, ?_⟩
      refine ifF (by decide +kernel) ?_
      refine ⟨_, rfl, rfl, _, rfl, ?_⟩
      refine ifF (by decide +kernel) ?_
      refine ⟨w, v5, _, _, _, _, v12, v13, rfl, fun b o eb => ?_, nw, ?_⟩
      · rw [upd_ne (ne_of_none eb nw)]; exact s6 _ _ (s5 _ _ eb)
      · rw [upd_same, ← flatR]; rfl
    · rintro σ H5 ⟨w, v5, v8, v9, v10, v11, v12, v13, rfl, s5, nw, hw⟩
      rw [iv_len] at hw
      refine ⟨_, rfl, rfl, _, rfl, ?_⟩
      refine ifF (by decide +kernel) ?_
      exact ⟨_, rfl, q _ rfl H5 w (s14.trans s5) (by rw [hw]; exact congrArg (fun l => some (HO.lst (iv l))) (one_by _ _))⟩
  | zip_segments =>
    obtain ⟨ls', v, rfl, hL', hO, hsum, hbn⟩ := hpr
    obtain rfl : ls = ls' := hls.symm
    obtain ⟨b, c, rfl, hb, hc, hb', hc'⟩ := hv.two
    have hp4 := s14.seq hp
    have hc4 := s14 _ _ hc'
    have o1 := hO.sm
    have o2 := sum_nn hO.mem
    refine ⟨_, rfl, Int.natCast_nonneg _, by rw [iv_len]; have := hL.ln; unfold NN at *; omega, for_it (walk_range (lo := 0) (n := (iv ls).length)) (SI K "zip" lp p ix ls.sum v4 H4 (zipI ls v)) ⟨z, none, none, none, none, none, none, none, rfl, sz, nz, upd_same⟩ (fun _ _ _ _ _ => trivial) ?_ ?_⟩
    · rintro i x σ H0 H5 hi ⟨w, v5, v8, v9, v10, v11, v12, v13, rfl, s5, nw, hw⟩ ⟨rfl, rfl⟩
      rw [iv_len] at hi
      obtain ⟨bi, ei, hbi⟩ := ixa i hi
      have li := lsa i hi
      refine ⟨_, rfl, rfl, _, rfl, ?_⟩
      refine ifF (by decide +kernel) ?_
      refine ⟨_, rfl, rfl, _, rfl, ?_⟩
      refine ifF (by decide +kernel) ?_
      refine ⟨_, rfl, rfl, _, rfl, ?_⟩
      refine ifF (by decide +kernel) ?_
      refine ⟨_, rfl, rfl, _, rfl, ?_⟩
      refine ifT (by decide +kernel) ?_
      refine ⟨_, rfl, p, _, _, _, rfl, rfl, s5.seq hp4, rfl, c, rfl, ⟨_, SqL.of (s5 _ _ hc4)⟩, for_list (K := K) (a := c) (xs := iv v) (fun j σ H7 => ∃ v12 : Option V, σ = [some (.str "zip"), some (.ref lp), some (.ref p), some (.int ls.sum), v4, v5, some (.ref ix), some (.ref w), some (.int (0 + (i : Int))), v9, some (.int (pre v j)), v11, v12, v13] ∧ H7 = H5) ⟨v12, rfl, rfl⟩ (fun _ _ _ _ h => by obtain ⟨_, _, rfl⟩ := h; exact SqL.of (s5 _ _ hc4)) ?_ ?_⟩
      · rintro j y σ H7 hj ⟨u11, rfl, rfl⟩
        obtain ⟨n, hn, rfl⟩ := iv_get hj
        have jl := (List.getElem?_eq_some_iff.mp hn).1
        refine ⟨_, rfl, _, rfl, _, _, rfl, rfl, some (.int n), ?_, rfl⟩
        rw [pre_succ jl, at_some hn]
        rfl
      rintro σ H7 ⟨u12, rfl, rfl⟩
      rw [iv_len, pre_full]
      refine ⟨_, rfl, p, _, _, _, rfl, rfl, s5.seq hp4, rfl, _, rfl, _, rfl, by omega, by unfold NN at *; omega, fun D2 nD2 => lc_it (walk_range (lo := 0) (n := v.sum.toNat)) (fun j H6 => Same H7 H6 ∧ H6 D2 = some (.lst (iv ((List.range j).map fun (k : Nat) => ls.sum + (k : Int))))) ⟨same_new nD2 _, upd_same⟩ (fun _ _ _ _ => trivial) ?_ ?_⟩
      · rintro j x H6 H8 hj ⟨sm6, hD6⟩ ⟨rfl, rfl⟩
        refine ⟨rfl, _, rfl, _, rfl, _, _, rfl, rfl, tick sm6 nD2 hD6 (fun _ _ e => e) (by rw [Int.zero_add]; exact mapR (fun k => ls.sum + (k : Int)) j) ?_⟩
        rw [iv_len, List.length_map, List.length_range]; omega
      rintro H6 ⟨sm6, hD6⟩
      have hD6' : H6 D2 = some (.lst (iv (rng ls.sum v.sum))) := hD6
      refine ⟨c, D2, v, rng ls.sum v.sum, rfl, SqL.of (sm6 _ _ (s5 _ _ hc4)), SqL.of hD6', hO, by rw [rng_len]; omega, fun H8 sg sgs s8 nsg hsg hvs => ?_⟩
      obtain ⟨br, er, hbr⟩ := hvs.get (segs_get (show i < v.length by omega))
      rw [seg_rng hO (by omega) _ (Int.le_refl _)] at hbr
      have s78 := sm6.trans s8
      have hzl := zip_len hL hO hsum i (by omega)
      have b1 := hL.seg hi
      have b2 := hL.prf i
      have b3 := hO.seg (i := i) (by omega)
      have b4 := hO.prf i
      refine ⟨_, rfl, _, rfl, _, rfl, ix, _, _, _, rfl, rfl, SqL.of (s78 _ _ (s5 _ _ hix)), ei, w, bi, _, _, rfl, rfl, s78 _ _ hw, s78 _ _ (s5 _ _ hbi), ?_, fun d1 nd1 => ?_⟩
      · rw [iv_len, iv_len, hzl, rng_len]
        have : 4 * NN ≤ sizeLine := by decide
        omega
      have sd1 := same_new nd1 (.lst (iv ((List.range i).flatMap (zipI ls v)) ++ iv (rng (pre ls i) (at_ ls i))))
      refine ⟨_, rfl, _, rfl, sg, _, _, _, rfl, rfl, SqL.of (sd1 _ _ hsg), (by rw [Int.zero_add]; exact atI_nat (by rw [List.getElem?_map, er]; rfl)), d1, br, _, _, rfl, rfl, upd_same, sd1 _ _ hbr, ?_, fun d2 nd2 => ?_⟩
      · rw [List.length_append, iv_len, iv_len, iv_len, hzl, rng_len, rng_len]
        have : 4 * NN ≤ sizeLine := by decide
        omega
      refine ⟨_, rfl, rfl, _, rfl, ?_⟩
      refine ifF (by decide +kernel) ?_
      refine ⟨d2, v5, _, v9, _, v11, _, _, rfl, (s5.trans (s78.trans sd1)).trans (same_new nd2 _), some_free (s5.trans (s78.trans sd1)) nd2, ?_⟩
      rw [upd_same, ← flatR]
      simp [iv, zipI]
    · rintro σ H5 ⟨w, v5, v8, v9, v10, v11, v12, v13, rfl, s5, nw, hw⟩
      rw [iv_len] at hw
      refine ⟨_, rfl, rfl, _, rfl, ?_⟩
      refine ifF (by decide +kernel) ?_
      exact ⟨_, rfl, q _ rfl H5 w (s14.trans s5) hw⟩
  | place =>
    obtain ⟨ls', v, rfl, hL', hsum⟩ := hpr
    obtain rfl : ls = ls' := hls.symm
    obtain ⟨b, c, rfl, hb, hc, hb', hc'⟩ := hv.two
    have hp4 := s14.seq hp
    have hc4 := s14 _ _ hc'
    refine ⟨_, rfl, Int.natCast_nonneg _, by rw [iv_len]; have := hL.ln; unfold NN at *; omega, for_it (walk_range (lo := 0) (n := (iv ls).length)) (fun i σ H5 => SI K "place" lp p ix ls.sum v4 H4 (fun i => [pre ls i + at_ v i]) i σ H5 ∧ ∀ j < i, 0 ≤ at_ v j ∧ at_ v j < at_ ls j) ⟨⟨z, none, none, none, none, none, none, none, rfl, sz, nz, upd_same⟩, fun j hj => absurd hj (Nat.not_lt_zero _)⟩ (fun _ _ _ _ _ => trivial) ?_ ?_⟩
    · rintro i x σ H0 H5 hi ⟨⟨w, v5, v8, v9, v10, v11, v12, v13, rfl, s5, nw, hw⟩, all⟩ ⟨rfl, rfl⟩
      rw [iv_len] at hi
      obtain ⟨bi, ei, hbi⟩ := ixa i hi
      have li := lsa i hi
      refine ⟨_, rfl, rfl, _, rfl, ?_⟩
      refine ifF (by decide +kernel) ?_
      refine ⟨_, rfl, rfl, _, rfl, ?_⟩
      refine ifF (by decide +kernel) ?_
      refine ⟨_, rfl, rfl, _, rfl, ?_⟩
      refine ifF (by decide +kernel) ?_
      refine ⟨_, rfl, rfl, _, rfl, ?_⟩
      refine ifF (by decide +kernel) ?_
      refine ⟨_, rfl, rfl, _, rfl, ?_⟩
      refine ifT (by decide +kernel) ?_
      have vi : atI (iv v) (0 + (i : Int)) = some (.int (at_ v i)) := by
        rw [Int.zero_add]; exact atI_nat (get_iv (at_get (by omega)))
      have bad : ¬ (0 ≤ at_ v i ∧ at_ v i < at_ ls i) → Q (.str "trap") H5 := fun c => e (if_neg fun z => c (z i hi)) _ (s14.trans s5)
      refine ⟨_, rfl, p, _, _, _, rfl, rfl, s5.seq hp4, rfl, _, rfl, c, _, _, _, rfl, rfl, SqL.of (s5 _ _ hc4), vi, ?_⟩
      refine ⟨_, _, rfl, rfl, _, rfl, ?_⟩
      by_cases c0 : at_ v i < 0
      · exact iteT' (decide_eq_true c0) (bad fun z => by omega)
      refine iteF' (decide_eq_false c0) ?_
      refine ⟨_, rfl, p, _, _, _, rfl, rfl, s5.seq hp4, rfl, _, rfl, c, _, _, _, rfl, rfl, SqL.of (s5 _ _ hc4), vi, ?_⟩
      refine ⟨_, rfl, _, rfl, lp, _, _, _, rfl, rfl, s5.seq lp4, li, ?_⟩
      refine ⟨_, _, rfl, rfl, _, rfl, ?_⟩
      by_cases c1 : at_ v i ≥ at_ ls i
      · exact ifT (decide_eq_true c1) (bad fun z => by omega)
      refine ifF (decide_eq_false c1) ?_
      have b1 := hL.seg hi
      have b2 := hL.prf i
      have ri : atI (iv (rng (pre ls i) (at_ ls i))) (at_ v i) = some (.int (pre ls i + at_ v i)) := by
        obtain ⟨k, ek⟩ := Int.eq_ofNat_of_zero_le (show 0 ≤ at_ v i by omega)
        rw [ek]
        exact atI_nat (get_iv (by unfold rng; rw [List.getElem?_map, List.getElem?_range (by omega)]; rfl))
      refine ⟨_, rfl, .inl ⟨rfl, _, SqL.of hw⟩, _, rfl, _, rfl, ix, _, _, _, rfl, rfl, SqL.of (s5 _ _ hix), ei, ?_⟩
      refine ⟨_, rfl, p, _, _, _, rfl, rfl, s5.seq hp4, rfl, _, rfl, c, _, _, _, rfl, rfl, SqL.of (s5 _ _ hc4), vi, bi, _, _, _, rfl, rfl, SqL.of (s5 _ _ hbi), ri, ?_⟩
      refine ⟨w, _, _, rfl, rfl, hw, ?_, ?_⟩
      · rw [iv_len, one_by, List.length_map, List.length_range]
        exact Nat.lt_of_lt_of_le (Nat.lt_of_lt_of_le hi hL.ln) (by decide)
      refine ⟨⟨w, v5, _, v9, v10, v11, v12, v13, rfl, fun b o eb => ?_, nw, ?_⟩, fun j hj => ?_⟩
      · rw [upd_ne (ne_of_none eb nw)]; exact s5 _ _ eb
      · rw [upd_same, ← flatR]; rfl
      · rcases Nat.lt_succ_iff_lt_or_eq.mp hj with hj | rfl
        · exact all j hj
        · exact ⟨by omega, by omega⟩
    · rintro σ H5 ⟨⟨w, v5, v8, v9, v10, v11, v12, v13, rfl, s5, nw, hw⟩, all⟩
      rw [iv_len] at hw all
      refine ⟨_, rfl, rfl, _, rfl, ?_⟩
      refine ifF (by decide +kernel) ?_
      exact ⟨_, rfl, q _ (if_pos all) H5 w (s14.trans s5) (by rw [hw]; exact congrArg (fun l => some (HO.lst (iv l))) (one_by _ _))⟩
  | pick =>
    obtain ⟨ls', v, rfl, hL', hk, htot⟩ := hpr
    obtain rfl : ls = ls' := hls.symm
    obtain ⟨b, c, rfl, hb, hc, hb', hc'⟩ := hv.two
    have hp4 := s14.seq hp
    have hc4 := s14 _ _ hc'
    refine ⟨_, rfl, Int.natCast_nonneg _, by rw [iv_len]; have := hL.ln; unfold NN at *; omega, for_it (walk_range (lo := 0) (n := (iv ls).length)) (SI K "pick" lp p ix ls.sum v4 H4 (fun _ => [])) ⟨z, none, none, none, none, none, none, none, rfl, sz, nz, upd_same⟩ (fun _ _ _ _ _ => trivial) ?_ ?_⟩
    · rintro i x σ H0 H5 hi ⟨w, v5, v8, v9, v10, v11, v12, v13, rfl, s5, nw, hw⟩ ⟨rfl, rfl⟩
      rw [iv_len] at hi
      obtain ⟨bi, ei, hbi⟩ := ixa i hi
      have li := lsa i hi
      refine ⟨_, rfl, rfl, _, rfl, ?_⟩
      refine ifF (by decide +kernel) ?_
      refine ⟨_, rfl, rfl, _, rfl, ?_⟩
      refine ifF (by decide +kernel) ?_
      refine ⟨_, rfl, rfl, _, rfl, ?_⟩
      refine ifF (by decide +kernel) ?_
      refine ⟨_, rfl, rfl, _, rfl, ?_⟩
      refine ifF (by decide +kernel) ?_
      refine ⟨_, rfl, rfl, _, rfl, ?_⟩
      refine ifF (by decide +kernel) ?_
      refine ⟨w, v5, _, v9, v10, v11, v12, v13, rfl, s5, nw, ?_⟩
      rw [hw, ← flatR]
      simp [iv]
    · rintro σ H5 ⟨w, v5, v8, v9, v10, v11, v12, v13, rfl, s5, nw, hw⟩
      have hw0 : H5 w = some (.lst (iv ((List.range 0).flatMap (pickI ls v)))) := by rw [hw]; simp [iv]
      refine ⟨_, rfl, rfl, _, rfl, ?_⟩
      refine ifT (by decide +kernel) ?_
      refine ⟨_, rfl, p, _, _, _, rfl, rfl, s5.seq hp4, rfl, c, rfl, ⟨_, SqL.of (s5 _ _ hc4)⟩, for_list (K := K) (a := c) (xs := iv v) (fun j σ H7 => ∃ (w : Addr) (v5 : Option V), σ = [some (.str "pick"), some (.ref lp), some (.ref p), some (.int ls.sum), v4, v5, some (.ref ix), some (.ref w), v8, v9, v10, v11, v12, v13] ∧ Same H4 H7 ∧ H7 w = some (.lst (iv ((List.range j).flatMap (pickI ls v))))) ⟨w, v5, rfl, s5, hw0⟩ (fun _ _ _ _ h => by obtain ⟨_, _, _, s, _⟩ := h; exact SqL.of (s _ _ hc4)) ?_ ?_⟩
      · rintro j y σ H7 hj ⟨u, u5, rfl, s7, hu⟩
        obtain ⟨m, hm, rfl⟩ := iv_get hj
        have jl := (List.getElem?_eq_some_iff.mp hm).1
        obtain ⟨m0, m1⟩ := hk m (List.mem_of_getElem? hm)
        obtain ⟨k, rfl⟩ := Int.eq_ofNat_of_zero_le m0
        obtain ⟨bk, ek, hbk⟩ := ixa k (by omega)
        rw [Int.zero_add] at ek
        have pj : pickI ls v j = rng (pre ls k) (at_ ls k) := by unfold pickI; rw [at_some hm]; rfl
        have z1 := flat_mono (G := pickI ls v) (i := j + 1) (n := v.length) (by omega)
        rw [List.range_succ, List.flatMap_append, List.length_append] at z1
        simp only [List.flatMap_cons, List.flatMap_nil, List.append_nil] at z1
        refine ⟨_, rfl, _, rfl, _, rfl, ix, _, _, _, rfl, rfl, SqL.of (s7 _ _ hix), ek, u, bk, _, _, rfl, rfl, hu, s7 _ _ hbk, ?_, fun d nd' => ?_⟩
        · rw [iv_len, iv_len, ← pj]
          exact Nat.le_trans (Nat.le_trans z1 htot) (by decide)
        · refine ⟨d, _, rfl, s7.trans (same_new nd' _), ?_⟩
          rw [upd_same, ← flatR, pj]
      · rintro σ H7 ⟨u, u5, rfl, s7, hu⟩
        rw [iv_len] at hu
        exact ⟨_, rfl, q _ rfl H7 u (s14.trans s7) hu⟩

end
end K6

namespace K6
open PySem PySem.Spec PyProof.Rows L2
/-! places -/
def castI (l : List Nat) : List Int := l.map fun (k : Nat) => (k : Int)
theorem cast_idx (l : List Nat) (k : Nat) : (castI l).idxOf (k : Int) = l.idxOf k := by
  induction l with
  | nil => rfl
  | cons x r ih =>
    show ((x : Int) :: castI r).idxOf (k : Int) = (x :: r).idxOf k
    rw [List.idxOf_cons, List.idxOf_cons, ih]
    by_cases c : x = k
    · subst c; simp
    · have c' : ¬ (x : Int) = (k : Int) := fun z => c (Int.ofNat.inj z)
      rw [show ((x : Int) == (k : Int)) = false from beq_eq_false_iff_ne.mpr c', show (x == k) = false from beq_eq_false_iff_ne.mpr c]
theorem idx_filter {p : Nat → Bool} {k n : Nat} (hk : k < n) (hp : p k = true) : ((List.range n).filter p).idxOf k = ((List.range k).filter p).length := by
  obtain ⟨m, rfl⟩ : ∃ m, n = k + (m + 1) := ⟨n - k - 1, by omega⟩
  rw [List.range_add, List.filter_append, List.range_succ_eq_map, List.map_cons, Nat.add_zero, List.filter_cons_of_pos hp]
  rw [List.idxOf_append, if_neg (by simp), List.idxOf_cons_self, Nat.zero_add]
def mk (v : List Int) (k : Nat) : Bool := decide (at_ v k ≠ 0)
theorem ones_len (v : List Int) : ∀ i, i ≤ v.length → (((List.range i).filter (mk v)).length : Int) = ones v i
  | 0, _ => by simp [ones]
  | i + 1, h => by
    have ih := ones_len v i (by omega)
    rw [List.range_succ, List.filter_append, List.length_append, ones_succ (at_get (show i < v.length by omega)), ← ih]
    by_cases c : at_ v i = 0 <;> simp [mk, c]
theorem zers_len (v : List Int) : ∀ i, i ≤ v.length → (((List.range i).filter (fun k => !mk v k)).length : Int) = zers v i
  | 0, _ => by simp [zers]
  | i + 1, h => by
    have ih := zers_len v i (by omega)
    rw [List.range_succ, List.filter_append, List.length_append, zers_succ (at_get (show i < v.length by omega)), ← ih]
    by_cases c : at_ v i = 0 <;> simp [mk, c]
def onesL (v : List Int) : List Int := castI ((List.range v.length).filter (mk v)) ++ castI ((List.range v.length).filter fun k => !mk v k)
theorem onesL_mem {v : List Int} {k : Nat} (h : k < v.length) : (k : Int) ∈ onesL v := by
  unfold onesL castI
  rw [List.mem_append]
  cases c : mk v k with
  | true => exact .inl (List.mem_map.mpr ⟨k, List.mem_filter.mpr ⟨List.mem_range.mpr h, c⟩, rfl⟩)
  | false => exact .inr (List.mem_map.mpr ⟨k, List.mem_filter.mpr ⟨List.mem_range.mpr h, by rw [c]; rfl⟩, rfl⟩)
theorem onesL_idx {v : List Int} {k : Nat} (h : k < v.length) : (((onesL v).idxOf (k : Int) : Nat) : Int) = weaveI v k := by
  unfold onesL weaveI
  by_cases c : at_ v k = 0
  · have m : mk v k = false := by simp [mk, c]
    have nm : ¬ (k : Int) ∈ castI ((List.range v.length).filter (mk v)) := fun z => by
      obtain ⟨j, z1, z2⟩ := List.mem_map.mp z
      obtain rfl : j = k := Int.ofNat.inj z2
      rw [(List.mem_filter.mp z1).2] at m
      cases m
    rw [if_pos c, List.idxOf_append, if_neg nm, cast_idx, idx_filter (p := fun k => !mk v k) h (by rw [m]; rfl), ← zers_len v k (by omega), ← ones_len v v.length (Nat.le_refl _)]
    simp only [castI, List.length_map]
    omega
  · have m : mk v k = true := by simp [mk, c]
    have nm : (k : Int) ∈ castI ((List.range v.length).filter (mk v)) := List.mem_map.mpr ⟨k, List.mem_filter.mpr ⟨List.mem_range.mpr h, m⟩, rfl⟩
    rw [if_neg c, List.idxOf_append, if_pos nm, cast_idx, idx_filter h m, ← ones_len v k (by omega)]
section
variable {P : Program} {w : World} {K : PySem.W.Frag} {mg : Str → Option Value} {base : Heap} {a : Ad}
def spDue (K : PySem.W.Frag) : Sp := fun vs H Q _ => ∃ (s : Str) (ex : V) (p : Addr) (as : List Addr) (xss : List (List Int)) (pr : PrT) (res : ReT), vs = [.str s, ex, .ref p] ∧ Ins s pr res ∧ s ≠ "calc" ∧ SqL K H p (as.map V.ref) ∧ VecsAt K H as xss ∧ pr ex xss ∧
  (∀ out, res ex xss = some out → ∀ (H' : Hp) (q : Addr), Same H H' → H' q = some (.lst (iv out)) → Q (.ref q) H') ∧ (res ex xss = none → ∀ H', Same H H' → Q (.str "trap") H')
theorem ok_law_due (T : Txt w K mg a) : FnOk P w K mg base CX0 3 a.law_due.1 a.law_due.2 ["name", "extra", "inputs"] (spDue K) := by
  refine T.law_due.F.ok sc_law_due (fun vs H Q E h => ?_) (fun cdv A outer s H vs Q E hr h => ?_)
  · obtain ⟨_, _, _, _, _, _, _, rfl, _⟩ := h
    rfl
  obtain ⟨nm, ex, p, as, xss, pr, res, rfl, hin, hnm, hp, hv, hpr, q, e⟩ := h
  have nd := sc_law_due.nd
  have G_law_due_segments := ok_law_due_segments (P := P) (w := w) (base := base) T
  refine ⟨_, (pss_cons (ps_set (i := 3) nd rfl (Or.inr rfl) (pe_ix ix_list (pv 2) pe_int (fun _ _ => rfl)))
  (pss_cons (ps_if (pt_cmpR op_eq (pv 0) pe_str (nomark _)) (pss_one (ps_ret (pe_lc (own := [("item", 5)]) (g := gName 5) (tt := tYes) rfl nd (pi_list (pv 3)) (blkOk_by (N := ["name", "extra", "inputs", "first", "ones", "item", "k", "n"]) (sc := defScope s_law_due) (by decide +kernel)) (fun _ _ _ _ _ => (pg_name (i := 5) nd rfl (Or.inl rfl))) (fun _ _ _ _ _ => pts_nil) (fun _ _ _ _ _ => (pv 1))))) pss_nil)
  (pss_cons (ps_if (pt_cmpR op_eq (pv 0) pe_str (nomark _)) (pss_one (ps_ret (pe_lc (own := [("k", 6)]) (g := gName 6) (tt := tYes) rfl nd (pi_list (pe_ix ix_list (pv 2) pe_int (fun _ _ => rfl))) (blkOk_by (N := ["name", "extra", "inputs", "first", "ones", "item", "k", "n"]) (sc := defScope s_law_due) (by decide +kernel)) (fun _ _ _ _ _ => (pg_name (i := 6) nd rfl (Or.inl rfl))) (fun _ _ _ _ _ => pts_nil) (fun _ _ _ _ _ => (pe_ix (ix_listK (K := K) rfl) (pv 3) (pv 6) (fun _ _ => rfl)))))) pss_nil)
  (pss_cons (ps_if (pt_cmpR op_eq (pv 0) pe_str (nomark _)) (pss_one (ps_ret (pe_lc (own := [("item", 5)]) (g := gName 5) (tt := tYes) rfl nd (pi_list (pv 3)) (blkOk_by (N := ["name", "extra", "inputs", "first", "ones", "item", "k", "n"]) (sc := defScope s_law_due) (by decide +kernel)) (fun _ _ _ _ _ => (pg_name (i := 5) nd rfl (Or.inl rfl))) (fun _ _ _ _ _ => pts_nil) (fun _ _ _ _ _ => (pe_callTy call_int1 (by rfl) T.int (by decide +kernel) (pa_cons (pe_cmpR op_ne (pv 5) pe_int (nomark _)) pa_nil)))))) pss_nil)
  (pss_cons (ps_if (pt_cmpR op_eq (pv 0) pe_str (nomark _)) (pss_one (ps_ret (pe_lc (own := [("k", 6)]) (g := gName 6) rfl nd (pi_range1 rfl T.range (pa_cons (pe_callB call_len_seq (by rfl) T.len PySem.boot_len (pa_cons (pv 3) pa_nil)) pa_nil)) (blkOk_by (N := ["name", "extra", "inputs", "first", "ones", "item", "k", "n"]) (sc := defScope s_law_due) (by decide +kernel)) (fun _ _ _ _ _ => (pg_name (i := 6) nd rfl (Or.inl rfl))) (fun _ _ _ _ _ => (pts_one (pt_cmpR op_eq (pe_cmpR op_ne (pe_ix (ix_listK (K := K) rfl) (pv 3) (pv 6) (fun _ _ => rfl)) pe_int (nomark _)) (pv 1) (nomark _)))) (fun _ _ _ _ _ => (pv 6))))) pss_nil)
  (pss_cons (ps_if (pt_cmpR op_eq (pv 0) pe_str (nomark _)) (pss_one (ps_ret (pe_op op_cat (pv 3) (pe_ix ix_list (pv 2) pe_int (fun _ _ => rfl))))) pss_nil)
  (pss_cons (ps_if (pt_cmpR op_eq (pv 0) pe_str (nomark _)) (pss_cons (ps_if (pt_cmpR op_gt (pe_callB call_len_seq (by rfl) T.len PySem.boot_len (pa_cons (pe_lc (own := [("n", 7)]) (g := gName 7) rfl nd (pi_list (pv 3)) (blkOk_by (N := ["name", "extra", "inputs", "first", "ones", "item", "k", "n"]) (sc := defScope s_law_due) (by decide +kernel)) (fun _ _ _ _ _ => (pg_name (i := 7) nd rfl (Or.inl rfl))) (fun _ _ _ _ _ => (pts_one (PW.pt (pw_or (pt_cmpR op_lt (pv 7) pe_int (nomark _)) (pw_or1 (pt_cmpR op_gt (pv 7) pe_int (nomark _))))))) (fun _ _ _ _ _ => (pv 7))) pa_nil)) pe_int (nomark _)) (pss_one (ps_ret pe_str)) pss_nil)
  (pss_one (ps_ret (pv 3)))) pss_nil)
  (pss_cons (ps_if (pt_cmpR op_eq (pv 0) pe_str (nomark _)) (pss_cons (ps_if (pt_cmpR (op_neD hr.units) (pv 3) (pe_ix ix_list (pv 2) pe_int (fun _ _ => rfl)) (nomark _)) (pss_one (ps_ret pe_str)) pss_nil)
  (pss_one (ps_ret (pv 3)))) pss_nil)
  (pss_cons (ps_if (pt_cmpR op_eq (pv 0) pe_str (nomark _)) (pss_cons (ps_set (i := 4) nd rfl (Or.inr rfl) (pe_op op_cat (pe_lc (own := [("k", 6)]) (g := gName 6) rfl nd (pi_range1 rfl T.range (pa_cons (pe_callB call_len_seq (by rfl) T.len PySem.boot_len (pa_cons (pv 3) pa_nil)) pa_nil)) (blkOk_by (N := ["name", "extra", "inputs", "first", "ones", "item", "k", "n"]) (sc := defScope s_law_due) (by decide +kernel)) (fun _ _ _ _ _ => (pg_name (i := 6) nd rfl (Or.inl rfl))) (fun _ _ _ _ _ => (pts_one (pt_cmpR op_ne (pe_ix (ix_listK (K := K) rfl) (pv 3) (pv 6) (fun _ _ => rfl)) pe_int (nomark _)))) (fun _ _ _ _ _ => (pv 6))) (pe_lc (own := [("k", 6)]) (g := gName 6) rfl nd (pi_range1 rfl T.range (pa_cons (pe_callB call_len_seq (by rfl) T.len PySem.boot_len (pa_cons (pv 3) pa_nil)) pa_nil)) (blkOk_by (N := ["name", "extra", "inputs", "first", "ones", "item", "k", "n"]) (sc := defScope s_law_due) (by decide +kernel)) (fun _ _ _ _ _ => (pg_name (i := 6) nd rfl (Or.inl rfl))) (fun _ _ _ _ _ => (pts_one (pt_cmpR op_eq (pe_ix (ix_listK (K := K) rfl) (pv 3) (pv 6) (fun _ _ => rfl)) pe_int (nomark _)))) (fun _ _ _ _ _ => (pv 6)))))
  (pss_one (ps_ret (pe_lc (own := [("k", 6)]) (g := gName 6) (tt := tYes) rfl nd (pi_range1 rfl T.range (pa_cons (pe_callB call_len_seq (by rfl) T.len PySem.boot_len (pa_cons (pv 3) pa_nil)) pa_nil)) (blkOk_by (N := ["name", "extra", "inputs", "first", "ones", "item", "k", "n"]) (sc := defScope s_law_due) (by decide +kernel)) (fun _ _ _ _ _ => (pg_name (i := 6) nd rfl (Or.inl rfl))) (fun _ _ _ _ _ => pts_nil) (fun _ _ _ _ _ => (IXL.pe_bmK (K := K) rfl PySem.F.plainAttrs_list PySem.F.slot_list_index PySem.F.type_list_index IXL.mt_indexI (pv 4) (pa_cons (pv 6) pa_nil))))))) pss_nil)
  (pss_one (ps_ret (pe_call G_law_due_segments (hr.mono (by omega)) rfl T.law_due_segments.g T.law_due_segments.F.kp T.law_due_segments.b .nil pass0 (pa_cons (pv 0) (pa_cons (pv 3) (pa_cons (pv 2) pa_nil))))))))))))))), ?_⟩
  cases hin with
  | calc_ => exact absurd rfl hnm
  | fill =>
    obtain ⟨n, v, rfl, rfl, hv1⟩ := hpr
    obtain ⟨b, rfl, hb, hb'⟩ := hv.one
    refine ⟨_, rfl, p, _, _, _, rfl, rfl, hp, rfl, ?_⟩
    refine ⟨_, rfl, rfl, _, rfl, ?_⟩
    refine ifT (by decide +kernel) ?_
    refine ⟨_, rfl, b, rfl, ⟨_, hb⟩, fun D nD => lc_it (walk_list (K := K) (a := b) (xs := iv v)) (fun i H1 => Same H H1 ∧ H1 D = some (.lst (iv ((v.take i).map fun _ => n)))) ⟨same_new nD _, by rw [List.take_zero]; exact upd_same⟩ (fun i H1 _ h => h.1.seq hb) ?_ ?_⟩
    · rintro i x H1 H2 hi ⟨sm, hD⟩ ⟨rfl, hx⟩
      obtain ⟨m, hm, rfl⟩ := iv_get hx
      refine ⟨rfl, _, rfl, tick sm nD hD (fun _ _ e => e) ?_ ?_⟩
      · rw [List.take_add_one, hm]; simp [iv]
      · rw [iv_len, List.length_map, List.length_take]; omega
    · rintro H1 ⟨sm, hD⟩
      rw [iv_len, List.take_length] at hD
      exact q _ rfl H1 D sm hD
  | take_ =>
    obtain ⟨v, ix, rfl, hl, hk⟩ := hpr
    obtain ⟨b, c, rfl, hb, hc, hb', hc'⟩ := hv.two
    refine ⟨_, rfl, p, _, _, _, rfl, rfl, hp, rfl, ?_⟩
    refine ⟨_, rfl, rfl, _, rfl, ?_⟩
    refine ifF (by decide +kernel) ?_
    refine ⟨_, rfl, rfl, _, rfl, ?_⟩
    refine ifT (by decide +kernel) ?_
    refine ⟨_, rfl, p, _, _, _, rfl, rfl, hp, rfl, c, rfl, ⟨_, hc⟩, fun D nD => lc_it (walk_list (K := K) (a := c) (xs := iv ix)) (fun i H1 => Same H H1 ∧ H1 D = some (.lst (iv ((ix.take i).map fun k => at_ v k.toNat)))) ⟨same_new nD _, by rw [List.take_zero]; exact upd_same⟩ (fun i H1 _ h => h.1.seq hc) ?_ ?_⟩
    · rintro i x H1 H2 hi ⟨sm, hD⟩ ⟨rfl, hx⟩
      obtain ⟨m, hm, rfl⟩ := iv_get hx
      obtain ⟨m0, m1⟩ := hk m (List.mem_of_getElem? hm)
      obtain ⟨j, rfl⟩ := Int.eq_ofNat_of_zero_le m0
      refine ⟨rfl, _, rfl, _, rfl, b, _, _, _, rfl, rfl, sm.seq hb, atI_nat (get_iv (at_get (by omega))), tick sm nD hD (fun _ _ e => e) ?_ ?_⟩
      · rw [List.take_add_one, hm]; simp [iv]
      · rw [iv_len, List.length_map, List.length_take]; omega
    · rintro H1 ⟨sm, hD⟩
      rw [iv_len, List.take_length] at hD
      exact q _ rfl H1 D sm hD
  | pick =>
    obtain ⟨ls, v, rfl, hL⟩ := hpr
    obtain ⟨b, c, rfl, hb, hc, hb', hc'⟩ := hv.two
    refine ⟨_, rfl, p, _, _, _, rfl, rfl, hp, rfl, ?_⟩
    refine ⟨_, rfl, rfl, _, rfl, ?_⟩
    refine ifF (by decide +kernel) ?_
    refine ⟨_, rfl, rfl, _, rfl, ?_⟩
    refine ifF (by decide +kernel) ?_
    refine ⟨_, rfl, rfl, _, rfl, ?_⟩
    refine ifF (by decide +kernel) ?_
    refine ⟨_, rfl, rfl, _, rfl, ?_⟩
    refine ifF (by decide +kernel) ?_
    refine ⟨_, rfl, rfl, _, rfl, ?_⟩
    refine ifF (by decide +kernel) ?_
    refine ⟨_, rfl, rfl, _, rfl, ?_⟩
    refine ifF (by decide +kernel) ?_
    refine ⟨_, rfl, rfl, _, rfl, ?_⟩
    refine ifF (by decide +kernel) ?_
    refine ⟨_, rfl, rfl, _, rfl, ?_⟩
    refine ifF (by decide +kernel) ?_
    exact ⟨_, rfl, _, rfl, _, rfl, "pick", b, p, _, ls, _, _, _, rfl, .pick, by decide +kernel, hb, rfl, hp, hv, ⟨ls, v, rfl, hL⟩, q, e⟩
  | repeat_ =>
    obtain ⟨ls, rfl, hL⟩ := hpr
    obtain ⟨b, rfl, hb, hb'⟩ := hv.one
    refine ⟨_, rfl, p, _, _, _, rfl, rfl, hp, rfl, ?_⟩
    refine ⟨_, rfl, rfl, _, rfl, ?_⟩
    refine ifF (by decide +kernel) ?_
    refine ⟨_, rfl, rfl, _, rfl, ?_⟩
    refine ifF (by decide +kernel) ?_
    refine ⟨_, rfl, rfl, _, rfl, ?_⟩
    refine ifF (by decide +kernel) ?_
    refine ⟨_, rfl, rfl, _, rfl, ?_⟩
    refine ifF (by decide +kernel) ?_
    refine ⟨_, rfl, rfl, _, rfl, ?_⟩
    refine ifF (by decide +kernel) ?_
    refine ⟨_, rfl, rfl, _, rfl, ?_⟩
    refine ifF (by decide +kernel) ?_
    refine ⟨_, rfl, rfl, _, rfl, ?_⟩
    refine ifF (by decide +kernel) ?_
    refine ⟨_, rfl, rfl, _, rfl, ?_⟩
    refine ifF (by decide +kernel) ?_
    exact ⟨_, rfl, _, rfl, _, rfl, "repeat", b, p, _, ls, _, _, _, rfl, .repeat_, by decide +kernel, hb, rfl, hp, hv, ⟨ls, rfl, hL⟩, q, e⟩
  | count_ =>
    obtain ⟨ls, rfl, hL⟩ := hpr
    obtain ⟨b, rfl, hb, hb'⟩ := hv.one
    refine ⟨_, rfl, p, _, _, _, rfl, rfl, hp, rfl, ?_⟩
    refine ⟨_, rfl, rfl, _, rfl, ?_⟩
    refine ifF (by decide +kernel) ?_
    refine ⟨_, rfl, rfl, _, rfl, ?_⟩
    refine ifF (by decide +kernel) ?_
    refine ⟨_, rfl, rfl, _, rfl, ?_⟩
    refine ifF (by decide +kernel) ?_
    refine ⟨_, rfl, rfl, _, rfl, ?_⟩
    refine ifF (by decide +kernel) ?_
    refine ⟨_, rfl, rfl, _, rfl, ?_⟩
    refine ifF (by decide +kernel) ?_
    refine ⟨_, rfl, rfl, _, rfl, ?_⟩
    refine ifF (by decide +kernel) ?_
    refine ⟨_, rfl, rfl, _, rfl, ?_⟩
    refine ifF (by decide +kernel) ?_
    refine ⟨_, rfl, rfl, _, rfl, ?_⟩
    refine ifF (by decide +kernel) ?_
    exact ⟨_, rfl, _, rfl, _, rfl, "count", b, p, _, ls, _, _, _, rfl, .count_, by decide +kernel, hb, rfl, hp, hv, ⟨ls, rfl, hL⟩, q, e⟩
  | where_ =>
    obtain ⟨bb, v, rfl, rfl, hl⟩ := hpr
    obtain ⟨b, rfl, hb, hb'⟩ := hv.one
    refine ⟨_, rfl, p, _, _, _, rfl, rfl, hp, rfl, ?_⟩
    refine ⟨_, rfl, rfl, _, rfl, ?_⟩
    refine ifF (by decide +kernel) ?_
    refine ⟨_, rfl, rfl, _, rfl, ?_⟩
    refine ifF (by decide +kernel) ?_
    refine ⟨_, rfl, rfl, _, rfl, ?_⟩
    refine ifF (by decide +kernel) ?_
    refine ⟨_, rfl, rfl, _, rfl, ?_⟩
    refine ifT (by decide +kernel) ?_
    refine ⟨_, rfl, b, _, rfl, .inl hb, _, rfl, Int.natCast_nonneg _, by rw [iv_len]; unfold NN at *; omega, fun D nD => lc_it (walk_range (lo := 0) (n := (iv v).length)) (fun i H1 => Same H H1 ∧ H1 D = some (.lst (iv ((List.range i).flatMap fun i => if decide (at_ v i ≠ 0) = bb then [(i : Int)] else [])))) ⟨same_new nD _, upd_same⟩ (fun _ _ _ _ => trivial) ?_ ?_⟩
    · rintro i x H1 H2 hi ⟨sm, hD⟩ ⟨rfl, rfl⟩
      rw [iv_len] at hi
      have len : ∀ j, ((List.range j).flatMap fun i => if decide (at_ v i ≠ 0) = bb then [(i : Int)] else []).length ≤ j := fun j => by
        induction j with
        | zero => simp
        | succ j ih =>
          rw [List.range_succ, List.flatMap_append, List.length_append]
          simp only [List.flatMap_cons, List.flatMap_nil, List.append_nil]
          have : (if decide (at_ v j ≠ 0) = bb then [(j : Int)] else []).length ≤ 1 := by split <;> simp
          omega
      refine ⟨rfl, _, rfl, _, rfl, b, _, _, _, rfl, rfl, sm.seq hb, (by rw [Int.zero_add]; exact atI_nat (get_iv (at_get hi))), rfl, _, rfl, rfl, _, rfl, ?_⟩
      have tst : (decide ((V.bl !decide (V.int (at_ v i) = V.int 0)) = V.bl bb)) = decide (decide (at_ v i ≠ 0) = bb) := by
        by_cases c : at_ v i = 0 <;> cases bb <;> simp [c]
      by_cases c : decide (at_ v i ≠ 0) = bb
      · refine ifT (by rw [tst]; exact decide_eq_true c) ?_
        refine ⟨_, rfl, tick sm nD hD (fun _ _ e => e) ?_ ?_⟩
        · show _ ++ [V.int (0 + (i : Int))] = _
          rw [← flatR, if_pos c, Int.zero_add]; rfl
        · rw [iv_len]; have := len (i + 1); omega
      · refine ifF (by rw [tst]; exact decide_eq_false c) ?_
        refine ⟨sm, ?_⟩
        rw [← flatR, if_neg c]
        simpa using hD
    · rintro H1 ⟨sm, hD⟩
      rw [iv_len] at hD
      exact q _ rfl H1 D sm hD
  | weave =>
    obtain ⟨v, rfl, hl⟩ := hpr
    obtain ⟨b, rfl, hb, hb'⟩ := hv.one
    refine ⟨_, rfl, p, _, _, _, rfl, rfl, hp, rfl, ?_⟩
    refine ⟨_, rfl, rfl, _, rfl, ?_⟩
    refine ifF (by decide +kernel) ?_
    refine ⟨_, rfl, rfl, _, rfl, ?_⟩
    refine ifF (by decide +kernel) ?_
    refine ⟨_, rfl, rfl, _, rfl, ?_⟩
    refine ifF (by decide +kernel) ?_
    refine ⟨_, rfl, rfl, _, rfl, ?_⟩
    refine ifF (by decide +kernel) ?_
    refine ⟨_, rfl, rfl, _, rfl, ?_⟩
    refine ifF (by decide +kernel) ?_
    refine ⟨_, rfl, rfl, _, rfl, ?_⟩
    refine ifF (by decide +kernel) ?_
    refine ⟨_, rfl, rfl, _, rfl, ?_⟩
    refine ifF (by decide +kernel) ?_
    refine ⟨_, rfl, rfl, _, rfl, ?_⟩
    refine ifT (by decide +kernel) ?_
    have r0 : Same H H := fun _ _ x => x
    refine ⟨_, rfl, b, _, rfl, .inl (r0.seq hb), _, rfl, Int.natCast_nonneg _, by rw [iv_len]; unfold NN at *; omega, fun D1 nD1 => lc_it (walk_range (lo := 0) (n := (iv v).length)) (fun i H1 => Same H H1 ∧ H1 D1 = some (.lst (iv (castI ((List.range i).filter (mk v)))))) ⟨same_new nD1 _, upd_same⟩ (fun _ _ _ _ => trivial) ?_ ?_⟩
    · rintro i x HA HB hi ⟨sm, hD⟩ ⟨rfl, rfl⟩
      rw [iv_len] at hi
      have bnd : (iv (castI ((List.range (i + 1)).filter (mk v)))).length ≤ NN := by
        rw [iv_len]; unfold castI; rw [List.length_map]
        exact Nat.le_trans (List.length_filter_le _ _) (by rw [List.length_range]; omega)
      refine ⟨rfl, _, rfl, _, rfl, b, _, _, _, rfl, rfl, (r0.trans sm).seq hb, (by rw [Int.zero_add]; exact atI_nat (get_iv (at_get hi))), rfl, _, rfl, ?_⟩
      by_cases c : at_ v i = 0
      · refine ifF (by rw [c]; decide) ?_
        exact ⟨sm, by rw [List.range_succ, List.filter_append]; simpa [mk, c] using hD⟩
      · refine ifT (by simpa using c) ?_
        exact ⟨_, rfl, tick sm nD1 hD (fun _ _ e => e) (by show _ ++ [V.int (0 + (i : Int))] = _; rw [Int.zero_add, List.range_succ, List.filter_append]; simp [iv, castI, mk, c]) bnd⟩
    rintro H1 ⟨smD1, hD1⟩
    rw [iv_len] at hD1
    refine ⟨_, rfl, b, _, rfl, .inl (smD1.seq hb), _, rfl, Int.natCast_nonneg _, by rw [iv_len]; unfold NN at *; omega, fun D2 nD2 => lc_it (walk_range (lo := 0) (n := (iv v).length)) (fun i H2 => Same H1 H2 ∧ H2 D2 = some (.lst (iv (castI ((List.range i).filter (fun k => !mk v k)))))) ⟨same_new nD2 _, upd_same⟩ (fun _ _ _ _ => trivial) ?_ ?_⟩
    · rintro i x HA HB hi ⟨sm, hD⟩ ⟨rfl, rfl⟩
      rw [iv_len] at hi
      have bnd : (iv (castI ((List.range (i + 1)).filter (fun k => !mk v k)))).length ≤ NN := by
        rw [iv_len]; unfold castI; rw [List.length_map]
        exact Nat.le_trans (List.length_filter_le _ _) (by rw [List.length_range]; omega)
      refine ⟨rfl, _, rfl, _, rfl, b, _, _, _, rfl, rfl, (smD1.trans sm).seq hb, (by rw [Int.zero_add]; exact atI_nat (get_iv (at_get hi))), rfl, _, rfl, ?_⟩
      by_cases c : at_ v i = 0
      · refine ifT (by rw [c]; decide) ?_
        exact ⟨_, rfl, tick sm nD2 hD (fun _ _ e => e) (by show _ ++ [V.int (0 + (i : Int))] = _; rw [Int.zero_add, List.range_succ, List.filter_append]; simp [iv, castI, mk, c]) bnd⟩
      · refine ifF (by simpa using c) ?_
        exact ⟨sm, by rw [List.range_succ, List.filter_append]; simpa [mk, c] using hD⟩
    rintro H2 ⟨smD2, hD2⟩
    rw [iv_len] at hD2
    have la : ∀ p : Nat → Bool, (iv (castI ((List.range v.length).filter p))).length ≤ NN := fun p => by
      rw [iv_len]; unfold castI; rw [List.length_map]
      exact Nat.le_trans (List.length_filter_le _ _) (by rw [List.length_range]; omega)
    have s02 := smD1.trans smD2
    refine ⟨D1, D2, _, _, rfl, rfl, smD2 _ _ hD1, hD2, ?_, fun d nd' => ?_⟩
    · have := la (mk v)
      have := la fun k => !mk v k
      have : 2 * NN ≤ sizeLine := by decide
      omega
    have sd := same_new nd' (.lst (iv (castI ((List.range v.length).filter (mk v))) ++ iv (castI ((List.range v.length).filter fun k => !mk v k))))
    have hd : (upd H2 d (.lst (iv (castI ((List.range v.length).filter (mk v))) ++ iv (castI ((List.range v.length).filter fun k => !mk v k))))) d = some (.lst (iv (onesL v))) := by rw [upd_same]; simp [iv, onesL]
    generalize (upd H2 d (.lst (iv (castI ((List.range v.length).filter (mk v))) ++ iv (castI ((List.range v.length).filter fun k => !mk v k))))) = H3 at sd hd ⊢
    have s03 := s02.trans sd
    refine ⟨_, rfl, b, _, rfl, .inl (s03.seq hb), _, rfl, Int.natCast_nonneg _, by rw [iv_len]; unfold NN at *; omega, fun D3 nD3 => lc_it (walk_range (lo := 0) (n := (iv v).length)) (fun i H4 => Same H3 H4 ∧ H4 D3 = some (.lst (iv ((List.range i).map (weaveI v))))) ⟨same_new nD3 _, upd_same⟩ (fun _ _ _ _ => trivial) ?_ ?_⟩
    · rintro i x HA HB hi ⟨sm, hD⟩ ⟨rfl, rfl⟩
      rw [iv_len] at hi
      have hdA := sm _ _ hd
      refine ⟨rfl, _, rfl, .inl ⟨rfl, _, SqL.of hdA⟩, _, rfl, d, onesL v, _, rfl, rfl, hdA, (by rw [Int.zero_add]; exact onesL_mem hi), tick sm nD3 hD (fun _ _ e => e) ?_ ?_⟩
      · rw [Int.zero_add, onesL_idx hi]
        exact mapR (weaveI v) i
      · rw [iv_len, List.length_map, List.length_range]; omega
    · rintro H4 ⟨sm, hD⟩
      rw [iv_len] at hD
      exact q _ rfl H4 D3 (s03.trans sm) hD
  | join_ =>
    obtain ⟨v, u, rfl, hl⟩ := hpr
    obtain ⟨b, c, rfl, hb, hc, hb', hc'⟩ := hv.two
    refine ⟨_, rfl, p, _, _, _, rfl, rfl, hp, rfl, ?_⟩
    refine ⟨_, rfl, rfl, _, rfl, ?_⟩
    refine ifF (by decide +kernel) ?_
    refine ⟨_, rfl, rfl, _, rfl, ?_⟩
    refine ifF (by decide +kernel) ?_
    refine ⟨_, rfl, rfl, _, rfl, ?_⟩
    refine ifF (by decide +kernel) ?_
    refine ⟨_, rfl, rfl, _, rfl, ?_⟩
    refine ifF (by decide +kernel) ?_
    refine ⟨_, rfl, rfl, _, rfl, ?_⟩
    refine ifT (by decide +kernel) ?_
    refine ⟨_, rfl, _, rfl, p, _, _, _, rfl, rfl, hp, rfl, b, c, _, _, rfl, rfl, hb', hc', ?_, fun d nd' => ?_⟩
    · rw [iv_len, iv_len]; exact Nat.le_trans hl (by decide)
    · exact q _ rfl _ d (same_new nd' _) (by rw [upd_same]; simp [iv])
  | sums =>
    obtain ⟨ls, v, rfl, hL⟩ := hpr
    obtain ⟨b, c, rfl, hb, hc, hb', hc'⟩ := hv.two
    refine ⟨_, rfl, p, _, _, _, rfl, rfl, hp, rfl, ?_⟩
    refine ⟨_, rfl, rfl, _, rfl, ?_⟩
    refine ifF (by decide +kernel) ?_
    refine ⟨_, rfl, rfl, _, rfl, ?_⟩
    refine ifF (by decide +kernel) ?_
    refine ⟨_, rfl, rfl, _, rfl, ?_⟩
    refine ifF (by decide +kernel) ?_
    refine ⟨_, rfl, rfl, _, rfl, ?_⟩
    refine ifF (by decide +kernel) ?_
    refine ⟨_, rfl, rfl, _, rfl, ?_⟩
    refine ifF (by decide +kernel) ?_
    refine ⟨_, rfl, rfl, _, rfl, ?_⟩
    refine ifF (by decide +kernel) ?_
    refine ⟨_, rfl, rfl, _, rfl, ?_⟩
    refine ifF (by decide +kernel) ?_
    refine ⟨_, rfl, rfl, _, rfl, ?_⟩
    refine ifF (by decide +kernel) ?_
    exact ⟨_, rfl, _, rfl, _, rfl, "sums", b, p, _, ls, _, _, _, rfl, .sums, by decide +kernel, hb, rfl, hp, hv, ⟨ls, v, rfl, hL⟩, q, e⟩
  | zip_segments =>
    obtain ⟨ls, v, rfl, hL⟩ := hpr
    obtain ⟨b, c, rfl, hb, hc, hb', hc'⟩ := hv.two
    refine ⟨_, rfl, p, _, _, _, rfl, rfl, hp, rfl, ?_⟩
    refine ⟨_, rfl, rfl, _, rfl, ?_⟩
    refine ifF (by decide +kernel) ?_
    refine ⟨_, rfl, rfl, _, rfl, ?_⟩
    refine ifF (by decide +kernel) ?_
    refine ⟨_, rfl, rfl, _, rfl, ?_⟩
    refine ifF (by decide +kernel) ?_
    refine ⟨_, rfl, rfl, _, rfl, ?_⟩
    refine ifF (by decide +kernel) ?_
    refine ⟨_, rfl, rfl, _, rfl, ?_⟩
    refine ifF (by decide +kernel) ?_
    refine ⟨_, rfl, rfl, _, rfl, ?_⟩
    refine ifF (by decide +kernel) ?_
    refine ⟨_, rfl, rfl, _, rfl, ?_⟩
    refine ifF (by decide +kernel) ?_
    refine ⟨_, rfl, rfl, _, rfl, ?_⟩
    refine ifF (by decide +kernel) ?_
    exact ⟨_, rfl, _, rfl, _, rfl, "zip", b, p, _, ls, _, _, _, rfl, .zip_segments, by decide +kernel, hb, rfl, hp, hv, ⟨ls, v, rfl, hL⟩, q, e⟩
  | place =>
    obtain ⟨ls, v, rfl, hL⟩ := hpr
    obtain ⟨b, c, rfl, hb, hc, hb', hc'⟩ := hv.two
    refine ⟨_, rfl, p, _, _, _, rfl, rfl, hp, rfl, ?_⟩
    refine ⟨_, rfl, rfl, _, rfl, ?_⟩
    refine ifF (by decide +kernel) ?_
    refine ⟨_, rfl, rfl, _, rfl, ?_⟩
    refine ifF (by decide +kernel) ?_
    refine ⟨_, rfl, rfl, _, rfl, ?_⟩
    refine ifF (by decide +kernel) ?_
    refine ⟨_, rfl, rfl, _, rfl, ?_⟩
    refine ifF (by decide +kernel) ?_
    refine ⟨_, rfl, rfl, _, rfl, ?_⟩
    refine ifF (by decide +kernel) ?_
    refine ⟨_, rfl, rfl, _, rfl, ?_⟩
    refine ifF (by decide +kernel) ?_
    refine ⟨_, rfl, rfl, _, rfl, ?_⟩
    refine ifF (by decide +kernel) ?_
    refine ⟨_, rfl, rfl, _, rfl, ?_⟩
    refine ifF (by decide +kernel) ?_
    exact ⟨_, rfl, _, rfl, _, rfl, "place", b, p, _, ls, _, _, _, rfl, .place, by decide +kernel, hb, rfl, hp, hv, ⟨ls, v, rfl, hL⟩, q, e⟩
  | need_range =>
    obtain ⟨v, rfl, hl⟩ := hpr
    obtain ⟨b, rfl, hb, hb'⟩ := hv.one
    refine ⟨_, rfl, p, _, _, _, rfl, rfl, hp, rfl, ?_⟩
    refine ⟨_, rfl, rfl, _, rfl, ?_⟩
    refine ifF (by decide +kernel) ?_
    refine ⟨_, rfl, rfl, _, rfl, ?_⟩
    refine ifF (by decide +kernel) ?_
    refine ⟨_, rfl, rfl, _, rfl, ?_⟩
    refine ifF (by decide +kernel) ?_
    refine ⟨_, rfl, rfl, _, rfl, ?_⟩
    refine ifF (by decide +kernel) ?_
    refine ⟨_, rfl, rfl, _, rfl, ?_⟩
    refine ifF (by decide +kernel) ?_
    refine ⟨_, rfl, rfl, _, rfl, ?_⟩
    refine ifT (by decide +kernel) ?_
    refine ⟨_, rfl, b, rfl, ⟨_, hb⟩, fun D nD => lc_it (walk_list (K := K) (a := b) (xs := iv v)) (fun i H1 => Same H H1 ∧ H1 D = some (.lst (iv ((v.take i).filter fun x => decide (x < 0 ∨ x > 1000))))) ⟨same_new nD _, by rw [List.take_zero]; exact upd_same⟩ (fun i H1 _ h => h.1.seq hb) ?_ ?_⟩
    · rintro i x H1 H2 hi ⟨sm, hD⟩ ⟨rfl, hx⟩
      obtain ⟨m, hm, rfl⟩ := iv_get hx
      have no : ¬ (m < 0 ∨ m > 1000) → Same H H2 ∧ H2 D = some (.lst (iv ((v.take (i + 1)).filter fun x => decide (x < 0 ∨ x > 1000)))) := fun c => by
        refine ⟨sm, ?_⟩
        rw [List.take_add_one, hm, List.filter_append]
        simp only [Option.toList_some, List.filter_cons, List.filter_nil, decide_eq_false c]
        simpa using hD
      have yes : (m < 0 ∨ m > 1000) → iv ((v.take i).filter fun x => decide (x < 0 ∨ x > 1000)) ++ [V.int m] = iv ((v.take (i + 1)).filter fun x => decide (x < 0 ∨ x > 1000)) := fun c => by
        rw [List.take_add_one, hm, List.filter_append]
        simp only [Option.toList_some, List.filter_cons, List.filter_nil, decide_eq_true c]
        simp [iv]
      have bnd : (iv ((v.take (i + 1)).filter fun x => decide (x < 0 ∨ x > 1000))).length ≤ NN := by
        rw [iv_len]; exact Nat.le_trans (List.length_filter_le _ _) (by rw [List.length_take]; omega)
      refine ⟨rfl, _, rfl, _, _, rfl, rfl, _, rfl, ?_⟩
      by_cases c0 : m < 0
      · refine iteT' (decide_eq_true c0) ?_
        exact ⟨_, rfl, tick sm nD hD (fun _ _ e => e) (yes (.inl c0)) bnd⟩
      · refine iteF' (decide_eq_false c0) ?_
        refine ⟨_, rfl, _, _, rfl, rfl, _, rfl, ?_⟩
        by_cases c1 : m > 1000
        · refine ifT (decide_eq_true c1) ?_
          exact ⟨_, rfl, tick sm nD hD (fun _ _ e => e) (yes (.inr c1)) bnd⟩
        · refine ifF (decide_eq_false c1) ?_
          exact no fun z => z.elim c0 c1
    · rintro H1 ⟨sm, hD⟩
      rw [iv_len, List.take_length] at hD
      refine ⟨D, _, rfl, .inl (SqL.of hD), _, _, rfl, rfl, _, rfl, ?_⟩
      rw [iv_len]
      by_cases c : ∀ x ∈ v, 0 ≤ x ∧ x ≤ 1000
      · have z : (v.filter fun x => decide (x < 0 ∨ x > 1000)) = [] := List.filter_eq_nil_iff.mpr fun x hx => by have := c x hx; simp; omega
        refine ifF (by rw [z]; rfl) ?_
        exact ⟨_, rfl, q v (if_pos c) H1 b sm (sm _ _ hb')⟩
      · have z : (v.filter fun x => decide (x < 0 ∨ x > 1000)) ≠ [] := fun z => c fun x hx => by
          have := List.filter_eq_nil_iff.mp z x hx
          simp at this
          omega
        refine ifT (decide_eq_true ?_) (e (if_neg c) H1 sm)
        have := List.length_pos_iff.mpr z
        omega
  | need_same =>
    obtain ⟨v, u, rfl⟩ := hpr
    obtain ⟨b, c, rfl, hb, hc, hb', hc'⟩ := hv.two
    refine ⟨_, rfl, p, _, _, _, rfl, rfl, hp, rfl, ?_⟩
    refine ⟨_, rfl, rfl, _, rfl, ?_⟩
    refine ifF (by decide +kernel) ?_
    refine ⟨_, rfl, rfl, _, rfl, ?_⟩
    refine ifF (by decide +kernel) ?_
    refine ⟨_, rfl, rfl, _, rfl, ?_⟩
    refine ifF (by decide +kernel) ?_
    refine ⟨_, rfl, rfl, _, rfl, ?_⟩
    refine ifF (by decide +kernel) ?_
    refine ⟨_, rfl, rfl, _, rfl, ?_⟩
    refine ifF (by decide +kernel) ?_
    refine ⟨_, rfl, rfl, _, rfl, ?_⟩
    refine ifF (by decide +kernel) ?_
    refine ⟨_, rfl, rfl, _, rfl, ?_⟩
    refine ifT (by decide +kernel) ?_
    refine ⟨_, rfl, _, rfl, p, _, _, _, rfl, rfl, hp, rfl, _, _, nsd_dp hb, nsd_dp hc, nsd_shaped _, nsd_shaped _, _, rfl, ?_⟩
    by_cases c1 : v = u
    · refine ifF (by rw [nsd_eqv, decide_eq_true c1]; rfl) ?_
      exact ⟨_, rfl, q v (if_pos c1) H b (fun _ _ x => x) hb'⟩
    · exact ifT (by rw [nsd_eqv, decide_eq_false c1]; rfl) (e (if_neg c1) H fun _ _ x => x)
  | flags =>
    obtain ⟨v, rfl, hv1⟩ := hpr
    obtain ⟨b, rfl, hb, hb'⟩ := hv.one
    refine ⟨_, rfl, p, _, _, _, rfl, rfl, hp, rfl, ?_⟩
    refine ⟨_, rfl, rfl, _, rfl, ?_⟩
    refine ifF (by decide +kernel) ?_
    refine ⟨_, rfl, rfl, _, rfl, ?_⟩
    refine ifF (by decide +kernel) ?_
    refine ⟨_, rfl, rfl, _, rfl, ?_⟩
    refine ifT (by decide +kernel) ?_
    refine ⟨_, rfl, b, rfl, ⟨_, hb⟩, fun D nD => lc_it (walk_list (K := K) (a := b) (xs := iv v)) (fun i H1 => Same H H1 ∧ H1 D = some (.lst (iv ((v.take i).map fun x => if x = 0 then 0 else 1)))) ⟨same_new nD _, by rw [List.take_zero]; exact upd_same⟩ (fun i H1 _ h => h.1.seq hb) ?_ ?_⟩
    · rintro i x H1 H2 hi ⟨sm, hD⟩ ⟨rfl, hx⟩
      obtain ⟨m, hm, rfl⟩ := iv_get hx
      refine ⟨rfl, _, rfl, rfl, .inr ⟨_, rfl, tick sm nD hD (fun _ _ e => e) ?_ ?_⟩⟩
      · rw [List.take_add_one, hm]
        by_cases c : m = 0 <;> simp [iv, c]
      · rw [iv_len, List.length_map, List.length_take]; omega
    · rintro H1 ⟨sm, hD⟩
      rw [iv_len, List.take_length] at hD
      exact q _ rfl H1 D sm hD

end
end K6

namespace K6
open PySem PySem.Spec PyProof.Rows L2
/-- what is kept but for the state of the draws -/
def Kp (st c : Addr) (H H' : Hp) : Prop := ∀ b o, b ≠ st → b ≠ c → H b = some o → H' b = some o
theorem Kp.rfl {st c : Addr} {H : Hp} : Kp st c H H := fun _ _ _ _ e => e
theorem Kp.trans {st c : Addr} {H H1 H2 : Hp} (x : Kp st c H H1) (y : Kp st c H1 H2) : Kp st c H H2 := fun b o h1 h2 e => y b o h1 h2 (x b o h1 h2 e)
theorem Kp.of {st c : Addr} {H H1 : Hp} (s : Same H H1) : Kp st c H H1 := fun b o _ _ e => s b o e
def Ls (st c : Addr) (H : Hp) (p : Addr) (ns : List Int) : Prop := H p = some (.lst (iv ns)) ∧ p ≠ st ∧ p ≠ c
theorem Ls.kp {st c p : Addr} {H H' : Hp} {ns : List Int} (h : Ls st c H p ns) (k : Kp st c H H') : Ls st c H' p ns := ⟨k _ _ h.2.1 h.2.2 h.1, h.2⟩
theorem Ls.seq {K : PySem.W.Frag} {st c p : Addr} {H : Hp} {ns : List Int} (h : Ls st c H p ns) : SqL K H p (iv ns) := SqL.of h.1
theorem St.new {st c p : Addr} {H : Hp} (s : StAt H st c) (n : H p = none) : p ≠ st ∧ p ≠ c := by
  obtain ⟨_, _, a, b⟩ := s
  exact ⟨(ne_of_none a n).symm, (ne_of_none b n).symm⟩
theorem St.put {st c p : Addr} {H : Hp} {o : HO} (s : StAt H st c) (n : p ≠ st ∧ p ≠ c) : StAt (upd H p o) st c := by
  obtain ⟨ns, z, a, b⟩ := s
  exact ⟨ns, z, by rw [upd_ne n.1.symm]; exact a, by rw [upd_ne n.2.symm]; exact b⟩
/-- one more drawn item -/
theorem Go.put {st c D : Addr} {H1 H4 : Hp} {o : HO} (g : Go st c H1 H4) (n : H1 D = none) (m : D ≠ st ∧ D ≠ c) : Go st c H1 (upd H4 D o) :=
  ⟨fun b o' h1 h2 e => by rw [upd_ne (ne_of_none e n)]; exact g.1 b o' h1 h2 e, St.put g.2 m⟩
theorem flat_le {G : Nat → List Int} {m : Nat} : ∀ {n : Nat}, (∀ i, i < n → (G i).length ≤ m) → ((List.range n).flatMap G).length ≤ n * m
  | 0, _ => by simp
  | n + 1, h => by
    have ih := flat_le (G := G) (m := m) (n := n) fun i hi => h i (by omega)
    have := h n (by omega)
    rw [List.range_succ, List.flatMap_append, List.length_append, Nat.add_mul, Nat.one_mul]
    simp only [List.flatMap_cons, List.flatMap_nil, List.append_nil]
    omega
/-- what the law draws -/
structure Cs (ls nums lane os ix ins sm rg : List Int) : Prop where
  l6 : ls.length ≤ 6
  l3 : ∀ n ∈ ls, 0 ≤ n ∧ n ≤ 3
  nl : nums.length = ls.sum.toNat
  ni : ∀ n ∈ nums, InR n
  al : lane.length = ls.length
  ai : ∀ n ∈ lane, InR n
  ol : os.length = ls.length
  o2 : ∀ n ∈ os, 0 ≤ n ∧ n ≤ 2
  xl : ix.length ≤ 5
  xi : ∀ n ∈ ix, 0 ≤ n ∧ n < ls.length
  il : ins.length = ls.length
  ii : ∀ n ∈ ins, InR n
  sl : sm.length = ls.length
  si : ∀ n ∈ sm, InR n
  rl : rg.length = lane.length
  ri : ∀ n ∈ rg, InR n
theorem sum_le {m : Int} : ∀ {ls : List Int}, (∀ n ∈ ls, n ≤ m) → ls.sum ≤ m * ls.length
  | [], _ => by simp
  | x :: r, h => by
    have ih := sum_le (ls := r) fun n hn => h n (List.mem_cons_of_mem _ hn)
    have := h x (List.mem_cons_self ..)
    rw [List.sum_cons, List.length_cons, Int.natCast_add, Int.mul_add]
    omega
theorem at_all {P : Int → Prop} {ls : List Int} (h : ∀ n ∈ ls, P n) {i : Nat} (hi : i < ls.length) : P (at_ ls i) := h _ (List.mem_of_getElem? (at_get hi))
theorem lens_of {ls : List Int} {m : Int} (hm : 0 ≤ m ∧ m ≤ 3) (h : ∀ n ∈ ls, 0 ≤ n ∧ n ≤ m) (l : ls.length ≤ 6) : Lens ls ∧ ls.sum ≤ 18 ∧ 0 ≤ ls.sum := by
  have a := sum_le (ls := ls) (m := 3) fun n hn => by have := (h n hn).2; omega
  have b := sum_nn (ls := ls) fun n hn => (h n hn).1
  refine ⟨⟨fun i => ?_, by unfold NN; omega, by unfold NN; omega⟩, by omega, b⟩
  by_cases c : i < ls.length
  · exact (at_all h c).1
  · unfold at_; rw [List.getD_eq_getElem?_getD, List.getElem?_eq_none (by omega)]; exact Int.le_refl _
section
variable {ls nums lane os ix ins sm rg : List Int} (h : Cs ls nums lane os ix ins sm rg)
include h
theorem Cs.L : Lens ls ∧ ls.sum ≤ 18 ∧ 0 ≤ ls.sum := lens_of (m := 3) (by omega) h.l3 h.l6
theorem Cs.O : Lens os ∧ os.sum ≤ 18 ∧ 0 ≤ os.sum := lens_of (m := 2) (by omega) h.o2 (by rw [h.ol]; exact h.l6)
theorem Cs.li : ∀ n ∈ ls, InR n := fun n hn => by have := h.l3 n hn; unfold InR; omega
theorem Cs.oi : ∀ n ∈ os, InR n := fun n hn => by have := h.o2 n hn; unfold InR; omega
theorem Cs.xr : ∀ n ∈ ix, InR n := fun n hn => by have := h.xi n hn; have := h.l6; unfold InR; omega
theorem Cs.n18 : nums.length ≤ 18 := by have := h.L; have := h.nl; omega
end
theorem few1 {x : List Int} (l : x.length ≤ 100) (i : ∀ n ∈ x, InR n) : Few [x] := ⟨by simp, fun y hy => by obtain rfl := List.mem_singleton.mp hy; exact ⟨l, i⟩⟩
theorem few2 {x y : List Int} (l : x.length ≤ 100) (i : ∀ n ∈ x, InR n) (l' : y.length ≤ 100) (i' : ∀ n ∈ y, InR n) : Few [x, y] := ⟨by simp, fun z hz => by
  simp only [List.mem_cons, List.not_mem_nil, or_false] at hz
  rcases hz with rfl | rfl
  · exact ⟨l, i⟩
  · exact ⟨l', i'⟩⟩
theorem ite_some {c : Prop} [Decidable c] {x out : List Int} (e : (if c then some x else none) = some out) : out = x := by
  split at e
  · exact (Option.some.inj e).symm
  · cases e
/-- a row: its name, its extra, its inputs -/
structure RowOk (s : Str) (ex : V) (xss : List (List Int)) (pr : PrT) (res : ReT) : Prop where
  I : Ins s pr res
  n : s ≠ "calc"
  p : pr ex xss
  f : Few xss
  l : ∀ out, res ex xss = some out → out.length ≤ NN
section
variable {ls nums lane os ix ins sm rg : List Int} (h : Cs ls nums lane os ix ins sm rg)
include h
theorem r_fill : RowOk "fill" (.int 9) [lane] pr_fill re_fill := by
  have a := h.al; have b := h.l6
  refine ⟨.fill, by decide +kernel, ⟨9, lane, rfl, rfl, by unfold NN; omega⟩, few1 (by omega) h.ai, fun out e => ?_⟩
  obtain rfl := Option.some.inj e
  simp only [List.headD_cons, List.length_map]; unfold NN; omega
theorem r_take : RowOk "take" .non [lane, ix] pr_take_ re_take_ := by
  have a := h.al; have b := h.l6; have d := h.xl
  refine ⟨.take_, by decide +kernel, ⟨lane, ix, rfl, by unfold NN; omega, fun k hk => by have := h.xi k hk; omega⟩, few2 (by omega) h.ai (by omega) h.xr, fun out e => ?_⟩
  obtain rfl := Option.some.inj e
  simp only [List.length_map]; show ix.length ≤ _; unfold NN; omega
theorem r_flags : RowOk "flags" .non [nums] pr_flags re_flags := by
  have a := h.n18
  refine ⟨.flags, by decide +kernel, ⟨nums, rfl, by unfold NN; omega⟩, few1 (by omega) h.ni, fun out e => ?_⟩
  obtain rfl := Option.some.inj e
  simp only [List.headD_cons, List.length_map]; unfold NN; omega
theorem r_where (b : Bool) : RowOk "where" (.bl b) [nums] pr_where_ re_where_ := by
  have a := h.n18
  refine ⟨.where_, by decide +kernel, ⟨b, nums, rfl, rfl, by unfold NN; omega⟩, few1 (by omega) h.ni, fun out e => ?_⟩
  obtain rfl := Option.some.inj e
  have := flat_le (G := fun i => if decide (at_ nums i ≠ 0) = b then [(i : Int)] else []) (m := 1) (n := nums.length) fun i _ => by split <;> simp
  refine Nat.le_trans this ?_
  unfold NN; omega
theorem r_join : RowOk "join" .non [nums, lane] pr_join_ re_join_ := by
  have a := h.n18; have b := h.al; have d := h.l6
  refine ⟨.join_, by decide +kernel, ⟨nums, lane, rfl, by unfold NN; omega⟩, few2 (by omega) h.ni (by omega) h.ai, fun out e => ?_⟩
  obtain rfl := Option.some.inj e
  show (nums ++ lane).length ≤ NN
  rw [List.length_append]; unfold NN; omega
theorem r_range : RowOk "range" .non [rg] pr_need_range re_need_range := by
  have a := h.rl; have b := h.al; have d := h.l6
  refine ⟨.need_range, by decide +kernel, ⟨rg, rfl, by unfold NN; omega⟩, few1 (by omega) h.ri, fun out e => ?_⟩
  have e' := ite_some e
  · subst e'
    show List.length _ ≤ NN
    unfold NN; omega
theorem r_sums : RowOk "sums" .non [ls, nums] pr_sums re_sums := by
  have a := h.n18; have b := h.L; have d := h.l6; have n := h.nl
  refine ⟨.sums, by decide +kernel, ⟨ls, nums, rfl, b.1, by omega⟩, few2 (by omega) h.li (by omega) h.ni, fun out e => ?_⟩
  obtain rfl := Option.some.inj e
  simp only [List.headD_cons, List.length_map, List.length_range]; unfold NN; omega
theorem r_same : RowOk "same" .non [ls, sm] pr_need_same re_need_same := by
  have a := h.sl; have d := h.l6
  refine ⟨.need_same, by decide +kernel, ⟨ls, sm, rfl⟩, few2 (by omega) h.li (by omega) h.si, fun out e => ?_⟩
  have e' := ite_some e
  · subst e'
    show List.length _ ≤ NN
    unfold NN; omega
theorem r_weave : RowOk "weave" .non [nums] pr_weave re_weave := by
  have a := h.n18
  refine ⟨.weave, by decide +kernel, ⟨nums, rfl, by unfold NN; omega⟩, few1 (by omega) h.ni, fun out e => ?_⟩
  obtain rfl := Option.some.inj e
  simp only [List.headD_cons, List.length_map, List.length_range]; unfold NN; omega
theorem r_repeat : RowOk "repeat" .non [ls] pr_repeat_ re_repeat_ := by
  have b := h.L; have d := h.l6
  refine ⟨.repeat_, by decide +kernel, ⟨ls, rfl, b.1⟩, few1 (by omega) h.li, fun out e => ?_⟩
  obtain rfl := Option.some.inj e
  refine Nat.le_trans (flat_le (m := 3) fun i hi => ?_) (show ls.length * 3 ≤ NN by unfold NN; omega)
  have := at_all h.l3 hi
  show (List.replicate (at_ ls i).toNat (i : Int)).length ≤ 3
  rw [List.length_replicate]; omega
theorem r_count : RowOk "count" .non [ls] pr_count_ re_count_ := by
  have b := h.L; have d := h.l6
  refine ⟨.count_, by decide +kernel, ⟨ls, rfl, b.1⟩, few1 (by omega) h.li, fun out e => ?_⟩
  obtain rfl := Option.some.inj e
  refine Nat.le_trans (flat_le (m := 3) fun i hi => ?_) (show ls.length * 3 ≤ NN by unfold NN; omega)
  have := at_all h.l3 hi
  show (rng 0 (at_ ls i)).length ≤ 3
  rw [rng_len]; omega
theorem r_zip : RowOk "zip" .non [ls, os] pr_zip_segments re_zip_segments := by
  have b := h.L; have d := h.l6; have o := h.O; have ol := h.ol
  refine ⟨.zip_segments, by decide +kernel, ⟨ls, os, rfl, b.1, o.1, by omega, by unfold NN; omega⟩, few2 (by omega) h.li (by omega) h.oi, fun out e => ?_⟩
  obtain rfl := Option.some.inj e
  refine Nat.le_trans (flat_le (m := 6) fun i hi => ?_) (show ls.length * 6 ≤ NN by unfold NN; omega)
  have := at_all h.l3 hi
  have := at_all h.o2 (show i < os.length by have hi' : i < ls.length := hi; omega)
  show (zipI ls os i).length ≤ 6
  unfold zipI
  rw [List.length_append, rng_len, rng_len]; omega
theorem pick_few : ((List.range ix.length).flatMap (pickI ls ix)).length ≤ NN := by
  have x := h.xl
  refine Nat.le_trans (flat_le (m := 3) fun i hi => ?_) (show ix.length * 3 ≤ NN by unfold NN; omega)
  have a := at_all h.xi hi
  have := at_all h.l3 (show (at_ ix i).toNat < ls.length by omega)
  unfold pickI
  rw [rng_len]; omega
theorem r_pick : RowOk "pick" .non [ls, ix] pr_pick re_pick := by
  have b := h.L; have d := h.l6; have x := h.xl
  refine ⟨.pick, by decide +kernel, ⟨ls, ix, rfl, b.1, h.xi, pick_few h⟩, few2 (by omega) h.li (by omega) h.xr, fun out e => ?_⟩
  obtain rfl := Option.some.inj e
  exact pick_few h
theorem r_place {ps : List Int} (pl : ps.length = ls.length) (pi : ∀ n ∈ ps, InR n) : RowOk "place" .non [ls, ps] pr_place re_place := by
  have b := h.L; have d := h.l6
  refine ⟨.place, by decide +kernel, ⟨ls, ps, rfl, b.1, pl⟩, few2 (by omega) h.li (by omega) pi, fun out e => ?_⟩
  have e' := ite_some e
  · subst e'
    rw [List.length_map, List.length_range]; unfold NN; simp only [List.headD_cons]; omega
end
def RowAt (K : PySem.W.Frag) (st c : Addr) (H : Hp) (v : V) : Prop := ∃ (t p : Addr) (s : Str) (ex : V) (as : List Addr) (xss : List (List Int)) (pr : PrT) (res : ReT), v = .ref t ∧ H t = some (.tup [.str s, ex, .ref p]) ∧ H p = some (.lst (as.map V.ref)) ∧ VecsAt K H as xss ∧ RowOk s ex xss pr res ∧ (t ≠ st ∧ t ≠ c) ∧ (p ≠ st ∧ p ≠ c) ∧ ∀ b ∈ as, b ≠ st ∧ b ≠ c
theorem VecsAt.kp {K : PySem.W.Frag} {st c : Addr} {H H' : Hp} (k : Kp st c H H') : ∀ {as : List Addr} {xss : List (List Int)}, VecsAt K H as xss → (∀ b ∈ as, b ≠ st ∧ b ≠ c) → VecsAt K H' as xss
  | [], [], _, _ => trivial
  | b :: _, _ :: _, ⟨x, y⟩, n => ⟨k _ _ (n b (List.mem_cons_self ..)).1 (n b (List.mem_cons_self ..)).2 x, y.kp k fun z m => n z (List.mem_cons_of_mem _ m)⟩
  | [], _ :: _, h, _ => h.elim
  | _ :: _, [], h, _ => h.elim
theorem RowAt.kp {K : PySem.W.Frag} {st c : Addr} {H H' : Hp} {v : V} (h : RowAt K st c H v) (k : Kp st c H H') : RowAt K st c H' v := by
  obtain ⟨t, p, s, ex, as, xss, pr, res, e, ht, hp, hv, r, n1, n2, n3⟩ := h
  exact ⟨t, p, s, ex, as, xss, pr, res, e, k _ _ n1.1 n1.2 ht, k _ _ n2.1 n2.2 hp, hv.kp k n3, r, n1, n2, n3⟩
end K6

namespace K6
open PySem PySem.Spec PyProof.Rows L2
theorem tickD {st c D : Addr} {H H1 H3 : Hp} {acc : List Int} {n : Int} {P : Int → Prop} {i : Nat} (hS : StAt H st c) (nD : H D = none) (g : Go st c H H1) (hD : H1 D = some (.lst (iv acc))) (hl : acc.length = i) (all : ∀ n ∈ acc, P n) (g3 : Go st c H1 H3) (hn : P n) (hi : i < 1000) :
    ∃ a', H3 D = some (.lst a') ∧ a'.length < sizeLine ∧ ∃ acc' : List Int, Go st c H (upd H3 D (.lst (a' ++ [V.int n]))) ∧ (upd H3 D (.lst (a' ++ [V.int n]))) D = some (.lst (iv acc')) ∧ acc'.length = i + 1 ∧ ∀ n ∈ acc', P n := by
  have nm := St.new hS nD
  refine ⟨iv acc, g3.1 _ _ nm.1 nm.2 hD, by rw [iv_len, hl]; exact Nat.lt_trans hi (by decide), acc ++ [n], (g.trans g3).put nD nm, by rw [upd_same]; simp [iv], by simp [hl], fun m hm => ?_⟩
  rcases List.mem_append.mp hm with hm | hm
  · exact all m hm
  · obtain rfl := List.mem_singleton.mp hm
    exact hn
def dic7 (x : Nat → V) : List (L2.Key × V) := [(.inr "+", x 0), (.inr "-", x 1), (.inr "*", x 2), (.inr "min", x 5), (.inr "max", x 6), (.inr "<", x 7), (.inr "=", x 8)]
theorem dic7_get (x : Nat → V) {k : Nat} {s : Str} (hk : sgn[k]? = some s) (h3 : k ≠ 3) (h4 : k ≠ 4) : valV (mergeK [] (dic7 x)) (.inr s) = some (x k) := by
  unfold mergeK dic7
  simp only [List.foldl_cons, List.foldl_nil]
  match k, hk, h3, h4 with
  | 0, hk, _, _ =>
    obtain rfl : ("+" : Str) = _ := Option.some.inj hk
    repeat rw [valV_put, if_neg (by decide +kernel)]
    rw [valV_put, if_pos rfl]
  | 1, hk, _, _ =>
    obtain rfl : ("-" : Str) = _ := Option.some.inj hk
    repeat rw [valV_put, if_neg (by decide +kernel)]
    rw [valV_put, if_pos rfl]
  | 2, hk, _, _ =>
    obtain rfl : ("*" : Str) = _ := Option.some.inj hk
    repeat rw [valV_put, if_neg (by decide +kernel)]
    rw [valV_put, if_pos rfl]
  | 3, _, h3, _ => exact absurd rfl h3
  | 4, _, _, h4 => exact absurd rfl h4
  | 5, hk, _, _ =>
    obtain rfl : ("min" : Str) = _ := Option.some.inj hk
    repeat rw [valV_put, if_neg (by decide +kernel)]
    rw [valV_put, if_pos rfl]
  | 6, hk, _, _ =>
    obtain rfl : ("max" : Str) = _ := Option.some.inj hk
    repeat rw [valV_put, if_neg (by decide +kernel)]
    rw [valV_put, if_pos rfl]
  | 7, hk, _, _ =>
    obtain rfl : ("<" : Str) = _ := Option.some.inj hk
    repeat rw [valV_put, if_neg (by decide +kernel)]
    rw [valV_put, if_pos rfl]
  | 8, hk, _, _ =>
    obtain rfl : ("=" : Str) = _ := Option.some.inj hk
    repeat rw [valV_put, if_neg (by decide +kernel)]
    rw [valV_put, if_pos rfl]
  | _ + 9, hk, _, _ => exact absurd hk (by simp [sgn])
def x0 (a : Int) : Nat → V
  | 0 => .int (a + 0)
  | _ => .int a
theorem x0_int (a : Int) (k : Nat) : ∃ m : Int, x0 a k = .int m := by
  cases k with
  | zero => exact ⟨_, rfl⟩
  | succ k => exact ⟨_, rfl⟩
def xt (a b : Int) : Nat → V
  | 0 => .int (a + b)
  | 1 => .int (a - b)
  | 2 => .int (a * b)
  | 5 => .int (if b < a then b else a)
  | 6 => .int (if b > a then b else a)
  | 7 => .int (if decide (a < b) = true then 1 else 0)
  | 8 => .int (if decide (V.int a = V.int b) = true then 1 else 0)
  | _ => .non
theorem xt_is (a b : Int) {k : Nat} (hk : k < 9) (h3 : k ≠ 3) (h4 : k ≠ 4) : ∃ n : Int, xt a b k = .int n ∧ opI k a b = some n := by
  match k, hk, h3, h4 with
  | 0, _, _, _ => exact ⟨_, rfl, rfl⟩
  | 1, _, _, _ => exact ⟨_, rfl, rfl⟩
  | 2, _, _, _ => exact ⟨_, rfl, rfl⟩
  | 3, _, h3, _ => exact absurd rfl h3
  | 4, _, _, h4 => exact absurd rfl h4
  | 5, _, _, _ => exact ⟨_, rfl, rfl⟩
  | 6, _, _, _ => exact ⟨_, rfl, rfl⟩
  | 7, _, _, _ => exact ⟨_, rfl, by simp [opI]⟩
  | 8, _, _, _ => exact ⟨_, rfl, by simp [opI]⟩
  | _ + 9, hk, _, _ => omega
theorem calcR_ok {k : Nat} {v u : List Int} (hk : k < 9) (h3 : k ≠ 3) (h4 : k ≠ 4) : calcR k v u = some ((List.range v.length).map (calcI k v u)) := by
  unfold calcR
  refine if_pos fun i _ => ?_
  obtain ⟨n, _, e⟩ := xt_is (at_ v i) (at_ u i) hk h3 h4
  rw [e]; exact fun z => nomatch z
theorem list_by {l : List Int} {f : Nat → Int} {n : Nat} (hl : l.length = n) (h : ∀ j < n, at_ l j = f j) : l = (List.range n).map f := by
  refine List.ext_getElem (by simp [hl]) fun j h1 h2 => ?_
  have := h j (by omega)
  rw [at_some (List.getElem?_eq_getElem h1)] at this
  rw [this]; simp
theorem at_set {l : List Int} {i j : Nat} {m : Int} (hi : i < l.length) : at_ (l.set i m) j = if i = j then m else at_ l j := by
  unfold at_
  rw [List.getD_eq_getElem?_getD, List.getD_eq_getElem?_getD, List.getElem?_set]
  by_cases c : i = j
  · subst c
    rw [if_pos rfl, if_pos rfl, if_pos hi]
    rfl
  · rw [if_neg c, if_neg c]
theorem iv_set (l : List Int) (i : Nat) (m : Int) : (iv l).set i (.int m) = iv (l.set i m) := by simp [iv, List.map_set]
theorem ixN_n {n j : Nat} (hj : j < n) : ixN n (j : Int) = some j := by
  unfold ixN
  rw [if_pos (by omega), if_pos (by omega)]
  rfl
theorem zeros_none {v u : List Int} (hl : u.length = v.length) : (∀ i < v.length, opI 3 (at_ v i) (at_ u i) ≠ none) ↔ (u.filter fun x => decide (x = 0)) = [] := by
  constructor
  · intro h
    refine List.filter_eq_nil_iff.mpr fun x hx c => ?_
    obtain ⟨i, e⟩ := List.getElem?_of_mem hx
    have il := (List.getElem?_eq_some_iff.mp e).1
    have c' : x = 0 := of_decide_eq_true c
    exact h i (by omega) (by rw [at_some e, c']; rfl)
  · intro h i hi e
    have m := List.mem_of_getElem? (at_get (show i < u.length by omega))
    have := List.filter_eq_nil_iff.mp h _ m
    refine this (decide_eq_true ?_)
    by_cases c : at_ u i = 0
    · exact c
    · have e' : (if at_ u i = 0 then none else some ((at_ v i).fdiv (at_ u i))) = none := e
      rw [if_neg c] at e'
      cases e'
theorem trap_shaped : SeqAt.shaped (.str "trap") = true := by decide +kernel
section
variable {P : Program} {w : World} {K : PySem.W.Frag} {mg : Str → Option Value} {base : Heap} {a : Ad}
theorem rest18 (T : Txt w K mg a) {cdv : Value} {A : Around} {outer : List Env} {s : Shared} {H0 : Hp} {E : XK} {Q : VK} (hg : (A.deeper (envOfC "law" (defScope s_law) s.heap.objs.size a.law.1 cdv)).guards = some []) (hr : Room 5 (A.deeper (envOfC "law" (defScope s_law) s.heap.objs.size a.law.1 cdv))) (q : ∀ H', Q (.bl true) H') :
    ∃ t, PSs (cxOf CX0 P w K mg base ["script", "state", "k", "lengths", "total", "length", "numbers", "lane", "others", "indexes", "inside", "same", "ranged", "rows", "name", "extra", "inputs", "mixed", "sign", "a", "due", "b", "table", "trapped", "n", "item"] "law" (defScope s_law) a.law.1 cdv A outer s H0 E).nox ((defBody s_law).drop 18) t ∧ ∀ (v0 v2 v3 v4 v5 v6 v8 v9 v10 v11 v12 v13 v14 v15 v16 : Option V) (st c ap : Addr) (lane : List Int) (H : Hp), StAt H st c → Ls st c H ap lane → lane.length ≤ 6 → (∀ n ∈ lane, InR n) →
      t { nx := fun _ H' => Q .non H', rt := Q } [v0, some (.ref st), v2, v3, v4, v5, v6, some (.ref ap), v8, v9, v10, v11, v12, v13, v14, v15, v16, none, none, none, none, none, none, none, none, none] H := by
  have nd := sc_law.nd
  have hu := hu_of hr
  have G_law_told := ok_law_told (P := P) (w := w) (base := base) T
  have G_law_number := ok_law_number (P := P) (w := w) (base := base) T
  have G_law_pick := ok_law_pick (P := P) (w := w) (base := base) T
  have G_law_wrap := ok_law_wrap (P := P) (w := w) (base := base) T
  refine ⟨_, (pss_cons (ps_setLc (i := 17) (own := [("item", 25)]) (g := gName 25) (tt := tYes) rfl nd rfl rfl (sw_true rfl rfl rfl (by decide +kernel)) (pi_list (pv 7)) (blkOk_by (N := ["script", "state", "k", "lengths", "total", "length", "numbers", "lane", "others", "indexes", "inside", "same", "ranged", "rows", "name", "extra", "inputs", "mixed", "sign", "a", "due", "b", "table", "trapped", "n", "item"]) (sc := defScope s_law) (by decide +kernel)) (fun _ _ _ _ _ => (pg_name (i := 25) nd rfl (Or.inl rfl))) (fun _ _ _ _ _ => pts_nil) (fun _ _ _ _ _ => (pe_call G_law_number (hr.mono (by omega)) rfl T.law_number.g T.law_number.F.kp T.law_number.b .nil pass0 (pa_cons (pv 1) pa_nil))))
  (pss_cons (ps_set (i := 18) nd rfl (Or.inr rfl) (pe_call G_law_pick (hr.mono (by omega)) rfl T.law_pick.g T.law_pick.F.kp T.law_pick.b .nil pass0 (pa_cons (pv 1) (pa_cons (pe_lst (pa_cons pe_str (pa_cons pe_str (pa_cons pe_str (pa_cons pe_str (pa_cons pe_str (pa_cons pe_str (pa_cons pe_str pa_nil)))))))) pa_nil))))
  (pss_cons (ps_setLc (i := 20) (own := [("a", 19)]) (g := gName 19) (tt := tYes) rfl nd rfl rfl (sw_true rfl rfl rfl (by decide +kernel)) (pi_list (pv 7)) (blkOk_by (N := ["script", "state", "k", "lengths", "total", "length", "numbers", "lane", "others", "indexes", "inside", "same", "ranged", "rows", "name", "extra", "inputs", "mixed", "sign", "a", "due", "b", "table", "trapped", "n", "item"]) (sc := defScope s_law) (by decide +kernel)) (fun _ _ _ _ _ => (pg_name (i := 19) nd rfl (Or.inl rfl))) (fun _ _ _ _ _ => pts_nil) (fun _ _ _ _ _ => (pe_dget hu (pe_disp (pps_cons pe_str (pe_op op_add (pv 19) pe_int) (pps_cons pe_str (pv 19) (pps_cons pe_str (pv 19) (pps_cons pe_str (pv 19) (pps_cons pe_str (pv 19) (pps_cons pe_str (pv 19) (pps_cons pe_str (pv 19) pps_nil))))))) (by rfl) (by rfl) (fun z => by cases z) (by decide)) (pv 18) (fun _ _ => rfl))))
  (pss_cons (ps_for PassesOwn.never rfl (pi_range1 rfl T.range (pa_cons (pe_callB call_len_seq (by rfl) T.len PySem.boot_len (pa_cons (pv 7) pa_nil)) pa_nil)) (pg_name (i := 2) nd rfl (Or.inl rfl)) (pss_cons (ps_par (i := 19) (j := 21) rfl nd rfl rfl (by decide) rfl rfl (pa_cons (pe_ix ix_list (pv 7) (pv 2) (fun _ _ => rfl)) (pa_cons (pe_ix ix_list (pv 17) (pv 2) (fun _ _ => rfl)) pa_nil)) rfl)
  (pss_cons (ps_set (i := 22) nd rfl (Or.inl rfl) (pe_disp (pps_cons pe_str (pe_op op_add (pv 19) (pv 21)) (pps_cons pe_str (pe_op op_sub (pv 19) (pv 21)) (pps_cons pe_str (pe_op op_mul (pv 19) (pv 21)) (pps_cons pe_str (pe_callB (call_min2 rfl) (by rfl) T.min (by decide +kernel) (pa_cons (pv 19) (pa_cons (pv 21) pa_nil))) (pps_cons pe_str (pe_callB (call_max2 rfl) (by rfl) T.max (by decide +kernel) (pa_cons (pv 19) (pa_cons (pv 21) pa_nil))) (pps_cons pe_str (pe_callTy call_int1 (by rfl) T.int (by decide +kernel) (pa_cons (pe_cmpR op_lt (pv 19) (pv 21) (nomark _)) pa_nil)) (pps_cons pe_str (pe_callTy call_int1 (by rfl) T.int (by decide +kernel) (pa_cons (pe_cmpR op_eq (pv 19) (pv 21) (nomark _)) pa_nil)) pps_nil))))))) (by rfl) (by rfl) (fun z => by cases z) (by decide)))
  (pss_one (ps_asg (pe_call G_law_wrap (hr.mono (by omega)) rfl T.law_wrap.g T.law_wrap.F.kp T.law_wrap.b .nil pass0 (pa_cons (pe_dget hu (pv 22) (pv 18) (fun _ _ => rfl)) pa_nil)) (pg_sub (pv 20) (pv 2) set_list))))))
  (pss_cons (ps_if (pt_cmpR (op_neD hr.units) (GX.pe_callG G_law_told hg (hr.mono (by omega)) rfl T.law_told.g T.law_told.F.kp T.law_told.b pass0 (pa_cons pe_str (pa_cons (pv 18) (pa_cons (pe_lst (pa_cons (pv 7) (pa_cons (pv 17) pa_nil))) pa_nil)))) (pv 20) (nomark _)) (pss_one (ps_ret pe_bl)) pss_nil)
  (pss_cons (ps_set (i := 23) nd rfl (Or.inl rfl) (pe_cmpR op_gt (pe_callB call_len_seq (by rfl) T.len PySem.boot_len (pa_cons (pe_lc (own := [("b", 21)]) (g := gName 21) rfl nd (pi_list (pv 17)) (blkOk_by (N := ["script", "state", "k", "lengths", "total", "length", "numbers", "lane", "others", "indexes", "inside", "same", "ranged", "rows", "name", "extra", "inputs", "mixed", "sign", "a", "due", "b", "table", "trapped", "n", "item"]) (sc := defScope s_law) (by decide +kernel)) (fun _ _ _ _ _ => (pg_name (i := 21) nd rfl (Or.inl rfl))) (fun _ _ _ _ _ => (pts_one (pt_cmpR op_eq (pv 21) pe_int (nomark _)))) (fun _ _ _ _ _ => (pv 21))) pa_nil)) pe_int (nomark _)))
  (pss_one (ps_ret (pe_cmpR op_eq (pe_cmpR (op_eqD hr.units) (GX.pe_callG G_law_told hg (hr.mono (by omega)) rfl T.law_told.g T.law_told.F.kp T.law_told.b pass0 (pa_cons pe_str (pa_cons pe_str (pa_cons (pe_lst (pa_cons (pv 7) (pa_cons (pv 17) pa_nil))) pa_nil)))) pe_str (nomark _)) (pv 23) (nomark _)))))))))), ?_⟩
  intro v0 v2 v3 v4 v5 v6 v8 v9 v10 v11 v12 v13 v14 v15 v16 st c ap lane H hS hA l6 ai
  refine ⟨_, rfl, ap, rfl, ⟨_, hA.seq⟩, fun M nM => lc_it (walk_list (K := K) (a := ap) (xs := iv lane)) (fun i H1 => ∃ acc : List Int, Go st c H H1 ∧ H1 M = some (.lst (iv acc)) ∧ acc.length = i ∧ ∀ n ∈ acc, InR n) ⟨[], Go.same hS (same_new nM _), upd_same, rfl, by simp⟩ (fun i H1 _ h => by obtain ⟨_, g, _⟩ := h; exact (hA.kp g.1).seq) ?_ ?_⟩
  · rintro i x H1 H2 hi ⟨acc, g, hM, hl, all⟩ ⟨rfl, hx⟩
    rw [iv_len] at hi
    exact ⟨rfl, _, rfl, st, c, rfl, g.2, fun H3 n g3 hn => tickD hS nM g hM hl all g3 hn (by omega)⟩
  rintro H1 ⟨mx, g1, hM, ml, mi⟩
  rw [iv_len] at ml
  have hM1 : Ls st c H1 M mx := ⟨hM, St.new hS nM⟩
  have hA1 := hA.kp g1.1
  refine ⟨_, rfl, (by show 7 ≤ sizeLine; decide), fun p hp => ?_⟩
  have np := St.new g1.2 hp
  refine ⟨st, c, p, _, rfl, St.put g1.2 np, upd_same, np.1, np.2, by decide, by decide, fun H2 x g2 hx => ?_⟩
  obtain ⟨k, sg, rfl, hk, k9, h3, h4⟩ : ∃ (k : Nat) (sg : Str), x = .str sg ∧ sgn[k]? = some sg ∧ k < 9 ∧ k ≠ 3 ∧ k ≠ 4 := by
    simp only [List.mem_cons, List.not_mem_nil, or_false] at hx
    rcases hx with rfl | rfl | rfl | rfl | rfl | rfl | rfl
    · exact ⟨0, _, rfl, rfl, by decide, by decide, by decide⟩
    · exact ⟨1, _, rfl, rfl, by decide, by decide, by decide⟩
    · exact ⟨2, _, rfl, rfl, by decide, by decide, by decide⟩
    · exact ⟨5, _, rfl, rfl, by decide, by decide, by decide⟩
    · exact ⟨6, _, rfl, rfl, by decide, by decide, by decide⟩
    · exact ⟨7, _, rfl, rfl, by decide, by decide, by decide⟩
    · exact ⟨8, _, rfl, rfl, by decide, by decide, by decide⟩
  have k12 := (Kp.of (st := st) (c := c) (same_new hp _)).trans g2.1
  have hA2 := hA1.kp k12
  have hM2 := hM1.kp k12
  clear hA1 hM1 hA
  refine ⟨_, rfl, ap, rfl, ⟨_, hA2.seq⟩, fun D nD => lc_it (walk_list (K := K) (a := ap) (xs := iv lane)) (fun i H3 => ∃ acc : List Int, Same H2 H3 ∧ H3 D = some (.lst (iv acc)) ∧ acc.length = i) ⟨[], same_new nD _, upd_same, rfl⟩ (fun i H3 _ h => by obtain ⟨_, s, _⟩ := h; exact s.seq hA2.seq) ?_ ?_⟩
  · rintro i x H3 H4 hi ⟨acc, s3, hD, hl⟩ ⟨rfl, hx⟩
    rw [iv_len] at hi
    obtain ⟨m, hm, rfl⟩ := iv_get hx
    refine ⟨rfl, fun p hp => ?_⟩
    obtain ⟨y, ey⟩ := x0_int m k
    have sp := same_new hp (.dK (mergeK [] (dic7 (x0 m))))
    refine ⟨_, rfl, _, _, rfl, rfl, _, rfl, _, rfl, _, rfl, _, rfl, _, rfl, _, rfl, upd_same, dic7 (x0 m), rfl, (by show 7 ≤ 15; decide), ?_⟩
    refine ⟨_, rfl, p, x0 m k, rfl, ?_, ?_⟩
    · rw [← dic7_get (x0 m) hk h3 h4]
      exact DGet.k (k := Sum.inr sg) upd_same
    rw [upd_upd, ey]
    refine ⟨iv acc, sp _ _ hD, by rw [iv_len, hl]; exact Nat.lt_trans (show i < 1000 by omega) (by decide), acc ++ [y], fun b o eb => ?_, by rw [upd_same]; simp [iv], by simp [hl]⟩
    rw [upd_ne (ne_of_none eb nD)]
    exact sp _ _ (s3 _ _ eb)
  rintro H3 ⟨dx, s3, hD, dl⟩
  rw [iv_len] at dl
  have nDa : ap ≠ D := ne_of_none hA2.1 nD
  have nDm : M ≠ D := ne_of_none hM2.1 nD
  have hA3 : H3 ap = some (.lst (iv lane)) := s3 _ _ hA2.1
  have hM3 : H3 M = some (.lst (iv mx)) := s3 _ _ hM2.1
  refine ⟨_, rfl, ap, _, rfl, .inl (SqL.of hA3), _, rfl, Int.natCast_nonneg _, by rw [iv_len]; omega, for_it (walk_range (lo := 0) (n := (iv lane).length)) (fun i σ H4 => ∃ (v2 v19 v21 v22 : Option V) (acc : List Int), σ = [v0, some (.ref st), v2, v3, v4, v5, v6, some (.ref ap), v8, v9, v10, v11, v12, v13, v14, v15, v16, some (.ref M), some (.str sg), v19, some (.ref D), v21, v22, none, none, none] ∧ (∀ b o, b ≠ D → H3 b = some o → H4 b = some o) ∧ H4 D = some (.lst (iv acc)) ∧ acc.length = lane.length ∧ ∀ j < i, at_ acc j = calcI k lane mx j) ⟨v2, none, none, none, dx, rfl, fun _ _ _ e => e, hD, dl, fun j z => absurd z (Nat.not_lt_zero _)⟩ (fun _ _ _ _ _ => trivial) ?_ ?_⟩
  · rintro i x σ Hx H4 hi ⟨u2, u19, u21, u22, acc, rfl, k4, hD4, al, done⟩ ⟨rfl, rfl⟩
    rw [iv_len] at hi
    have ga : atI (iv lane) (0 + (i : Int)) = some (.int (at_ lane i)) := by rw [Int.zero_add]; exact atI_nat (get_iv (at_get hi))
    have gm : atI (iv mx) (0 + (i : Int)) = some (.int (at_ mx i)) := by rw [Int.zero_add]; exact atI_nat (get_iv (at_get (by omega)))
    have ra := at_all ai hi
    have rm := at_all mi (show i < mx.length by omega)
    have hA4 := k4 _ _ nDa hA3
    have hM4 := k4 _ _ nDm hM3
    obtain ⟨n, en, on⟩ := xt_is (at_ lane i) (at_ mx i) k9 h3 h4
    refine ⟨_, rfl, _, rfl, ap, _, _, _, rfl, rfl, SqL.of hA4, ga, _, rfl, _, rfl, M, _, _, _, rfl, rfl, SqL.of hM4, gm, _, _, rfl, ?_⟩
    refine fun p hp => ?_
    have s6 := same_new hp (.dK (mergeK [] (dic7 (xt (at_ lane i) (at_ mx i)))))
    refine ⟨_, rfl, _, rfl, _, _, rfl, rfl, _, rfl, _, rfl, _, _, rfl, rfl, _, rfl, _, rfl, _, _, rfl, rfl, .inl (by unfold InR at ra; omega), _, rfl, _, rfl, _, _, rfl, _, rfl, _, rfl, _, _, rfl, ?_⟩
    refine ⟨_, rfl, _, rfl, _, _, rfl, rfl, .inr ⟨_, rfl, _, rfl, _, rfl, rfl, .inr ⟨_, rfl, upd_same, dic7 (xt (at_ lane i) (at_ mx i)), rfl, (by show 7 ≤ 15; decide), ?_⟩⟩⟩
    rw [upd_upd]
    have s56 := s6
    refine ⟨_, rfl, _, rfl, p, .int n, rfl, ?_, n, rfl, ?_⟩
    · rw [← en, ← dic7_get (xt (at_ lane i) (at_ mx i)) hk h3 h4]
      exact DGet.k (k := Sum.inr sg) upd_same
    refine ⟨_, rfl, _, rfl, D, iv acc, _, i, rfl, rfl, s56 _ _ hD4, by rw [Int.zero_add, iv_len]; exact ixN_n (by omega), ?_⟩
    refine ⟨_, _, _, _, acc.set i (wrap n), rfl, fun b o nb eb => ?_, ?_, by rw [List.length_set]; exact al, fun j hj => ?_⟩
    · rw [upd_ne nb]; exact s56 _ _ (k4 b o nb eb)
    · rw [upd_same, iv_set]
    · rw [at_set (by omega)]
      by_cases c : i = j
      · subst c
        rw [if_pos rfl]; unfold calcI; rw [on]; rfl
      · rw [if_neg c]; exact done j (by omega)
  rintro σ H4 ⟨u2, u19, u21, u22, acc, rfl, k4, hD4, al, done⟩
  rw [iv_len] at done
  have hA4 := k4 _ _ nDa hA3
  have hM4 := k4 _ _ nDm hM3
  have ea := list_by al done
  have few : Few [lane, mx] := few2 (by omega) ai (by omega) mi
  have tl : ∀ (k : Nat) (sg : Str), sgn[k]? = some sg → pr_calc_ (.str sg) [lane, mx] := fun k sg hk => ⟨k, sg, lane, mx, rfl, hk, rfl, ml, by unfold NN; omega, ai, mi⟩
  have el : ∀ (k : Nat) (sg : Str), sgn[k]? = some sg → re_calc_ (.str sg) [lane, mx] = calcR k lane mx := fun k sg hk => by
    show calcR (sgn.idxOf sg) lane mx = _
    rw [sgn_idx hk]
  have ll : ∀ (k : Nat) (out : List Int), calcR k lane mx = some out → out.length ≤ NN := fun k out e => by
    rw [ite_some e, List.length_map, List.length_range]; unfold NN; omega
  refine ⟨_, rfl, _, rfl, _, rfl, (by show 2 ≤ sizeLine; decide), fun l nl => ?_⟩
  have sl := same_new nl (.lst [V.ref ap, V.ref M])
  refine ⟨"calc", .str sg, l, [ap, M], [lane, mx], pr_calc_, re_calc_, rfl, .calc_, SqL.of upd_same, ⟨sl _ _ hA4, sl _ _ hM4, trivial⟩, tl k sg hk, few, fun out e => ll k out (by rw [← el k sg hk]; exact e), fun out e H5 r s5 nr hr5 => ?_, fun e => ?_⟩
  · rw [el k sg hk, calcR_ok k9 h3 h4] at e
    obtain rfl := Option.some.inj e
    have s45 := sl.trans s5
    refine ⟨_, rfl, _, _, nsd_dp (SqL.of hr5), nsd_dp (SqL.of (s45 _ _ hD4)), nsd_shaped _, nsd_shaped _, _, rfl, ?_⟩
    refine ifF (by rw [nsd_eqv, ea, decide_eq_true rfl]; rfl) ?_
    have hA5 := s45 _ _ hA4
    have hM5 := s45 _ _ hM4
    refine ⟨_, rfl, M, rfl, ⟨_, SqL.of hM5⟩, fun D2 nD2 => lc_it (walk_list (K := K) (a := M) (xs := iv mx)) (fun i H6 => Same H5 H6 ∧ H6 D2 = some (.lst (iv ((mx.take i).filter fun x => decide (x = 0))))) ⟨same_new nD2 _, by rw [List.take_zero]; exact upd_same⟩ (fun i H6 _ h => SqL.of (h.1 _ _ hM5)) ?_ ?_⟩
    · rintro i x H6 H7 hi ⟨sm, hD2⟩ ⟨rfl, hx⟩
      obtain ⟨m, hm, rfl⟩ := iv_get hx
      refine ⟨rfl, _, rfl, rfl, _, rfl, ?_⟩
      by_cases c : m = 0
      · refine ifT (by rw [c]; decide) ?_
        refine ⟨_, rfl, tick sm nD2 hD2 (fun _ _ e => e) ?_ ?_⟩
        · rw [List.take_add_one, hm, List.filter_append]; simp [iv, c]
        · rw [iv_len]; exact Nat.le_trans (List.length_filter_le _ _) (by rw [List.length_take]; unfold NN; omega)
      · refine ifF (by simpa using c) ⟨sm, ?_⟩
        rw [List.take_add_one, hm, List.filter_append]
        simpa [c] using hD2
    rintro H6 ⟨s6, hD2⟩
    rw [iv_len, List.take_length] at hD2
    have hA6 := s6 _ _ hA5
    have hM6 := s6 _ _ hM5
    refine ⟨D2, _, rfl, .inl (SqL.of hD2), _, _, rfl, rfl, ?_⟩
    rw [iv_len]
    have zn := zeros_none (v := lane) (u := mx) ml
    refine ⟨_, rfl, _, rfl, (by show 2 ≤ sizeLine; decide), fun l2 nl2 => ?_⟩
    have sl2 := same_new nl2 (.lst [V.ref ap, V.ref M])
    refine ⟨"calc", .str "/", l2, [ap, M], [lane, mx], pr_calc_, re_calc_, rfl, .calc_, SqL.of upd_same, ⟨sl2 _ _ hA6, sl2 _ _ hM6, trivial⟩, tl 3 "/" rfl, few, fun out e => ll 3 out (by rw [← el 3 "/" rfl]; exact e), fun out e H7 r s7 nr hr7 => ?_, fun e H7 s7 => ?_⟩
    · rw [el 3 "/" rfl] at e
      have z : (mx.filter fun x => decide (x = 0)) = [] := by
        unfold calcR at e
        split at e
        · rename_i h; exact zn.mp h
        · cases e
      refine ⟨nsd out, .str "trap", nsd_dp (SqL.of hr7), .str _, nsd_shaped _, trap_shaped, _, rfl, rfl, ?_⟩
      rw [z]
      exact q _
    · rw [el 3 "/" rfl] at e
      have z : (mx.filter fun x => decide (x = 0)) ≠ [] := fun z => by
        unfold calcR at e
        rw [if_pos (zn.mpr z)] at e
        cases e
      have zl := List.length_pos_iff.mpr z
      refine ⟨.str "trap", .str "trap", .str _, .str _, trap_shaped, trap_shaped, _, rfl, rfl, ?_⟩
      have e1 : (fun i j : Int => V.bl (decide (j < i))) ((mx.filter fun x => decide (x = 0)).length : Int) 0 = V.bl true := congrArg V.bl (decide_eq_true (by omega))
      have e2 : PyData.eqv (.str "trap") (.str "trap") = true := by decide +kernel
      rw [e1, e2]
      exact q _
  · rw [el k sg hk, calcR_ok k9 h3 h4] at e
    cases e
end
end K6

namespace K6
open PySem PySem.Spec PyProof.Rows L2
section
variable {P : Program} {w : World} {K : PySem.W.Frag} {mg : Str → Option Value} {base : Heap} {a : Ad}
theorem rest17 (T : Txt w K mg a) {cdv : Value} {A : Around} {outer : List Env} {s : Shared} {H0 : Hp} {E : XK} {Q : VK} (hg : (A.deeper (envOfC "law" (defScope s_law) s.heap.objs.size a.law.1 cdv)).guards = some []) (hr : Room 5 (A.deeper (envOfC "law" (defScope s_law) s.heap.objs.size a.law.1 cdv))) (q : ∀ H', Q (.bl true) H') :
    ∃ t, PSs (cxOf CX0 P w K mg base ["script", "state", "k", "lengths", "total", "length", "numbers", "lane", "others", "indexes", "inside", "same", "ranged", "rows", "name", "extra", "inputs", "mixed", "sign", "a", "due", "b", "table", "trapped", "n", "item"] "law" (defScope s_law) a.law.1 cdv A outer s H0 E).nox ((defBody s_law).drop 17) t ∧ ∀ (v0 v2 v3 v4 v5 v6 v8 v9 v10 v11 v12 : Option V) (st c ap rp : Addr) (lane : List Int) (rows : List V) (H : Hp), StAt H st c → Ls st c H ap lane → lane.length ≤ 6 → (∀ n ∈ lane, InR n) → H rp = some (.lst rows) → (∀ (i : Nat) (v : V), rows[i]? = some v → RowAt K st c H v) →
      t { nx := fun _ H' => Q .non H', rt := Q } [v0, some (.ref st), v2, v3, v4, v5, v6, some (.ref ap), v8, v9, v10, v11, v12, some (.ref rp), none, none, none, none, none, none, none, none, none, none, none, none] H := by
  have nd := sc_law.nd
  have G_law_told := ok_law_told (P := P) (w := w) (base := base) T
  have G_law_due := ok_law_due (P := P) (w := w) (base := base) T
  obtain ⟨tD, hD, qD⟩ := rest18 (P := P) (base := base) T (cdv := cdv) (A := A) (outer := outer) (s := s) (H0 := H0) (E := E) (Q := Q) hg hr q
  refine ⟨_, (pss_cons (ps_for PassesOwn.never rfl (pi_list (pv 13)) (pg_tup rfl (pgs_cons (pg_name (i := 14) nd rfl (Or.inl rfl)) (pgs_cons (pg_name (i := 15) nd rfl (Or.inl rfl)) (pgs_cons (pg_name (i := 16) nd rfl (Or.inl rfl)) pgs_nil)))) (pss_one (ps_if (pt_cmpR (op_neD hr.units) (GX.pe_callG G_law_told hg (hr.mono (by omega)) rfl T.law_told.g T.law_told.F.kp T.law_told.b pass0 (pa_cons (pv 14) (pa_cons (pv 15) (pa_cons (pv 16) pa_nil)))) (pe_call G_law_due (hr.mono (by omega)) rfl T.law_due.g T.law_due.F.kp T.law_due.b .nil pass0 (pa_cons (pv 14) (pa_cons (pv 15) (pa_cons (pv 16) pa_nil)))) (nomark _)) (pss_one (ps_ret pe_bl)) pss_nil)))
  hD), ?_⟩
  intro v0 v2 v3 v4 v5 v6 v8 v9 v10 v11 v12 st c ap rp lane rows H hS hA l6 ai hr0 hrow
  refine ⟨_, rfl, rp, rfl, ⟨_, SqL.of hr0⟩, for_list (K := K) (a := rp) (xs := rows) (fun i σ H1 => ∃ (v14 v15 v16 : Option V), σ = [v0, some (.ref st), v2, v3, v4, v5, v6, some (.ref ap), v8, v9, v10, v11, v12, some (.ref rp), v14, v15, v16, none, none, none, none, none, none, none, none, none] ∧ Same H H1) ⟨none, none, none, rfl, fun _ _ e => e⟩ (fun i σ H1 _ h => by obtain ⟨_, _, _, _, s⟩ := h; exact SqL.of (s _ _ hr0)) ?_ ?_⟩
  · rintro i y σ H1 hi ⟨v14, v15, v16, rfl, s1⟩
    obtain ⟨t, p, nm, ex, as, xss, pr, res, rfl, ht, hp, hv, R, _⟩ := hrow i y hi
    have ht1 := s1 _ _ ht
    have hp1 := s1 _ _ hp
    have hv1 := hv.same s1
    refine ⟨t, _, rfl, .inl (.inl ht1), rfl, _, _, rfl, _, _, rfl, _, _, rfl, rfl, ?_⟩
    refine ⟨_, rfl, _, rfl, _, rfl, nm, ex, p, as, xss, pr, res, rfl, R.I, SqL.of hp1, hv1, R.p, R.f, R.l, fun out eo H2 r s2 nr hr2 => ?_, fun eo H2 s2 => ?_⟩
    · refine ⟨_, rfl, _, rfl, _, rfl, nm, ex, p, as, xss, pr, res, rfl, R.I, R.n, SqL.of (s2 _ _ hp1), hv1.same s2, R.p, fun out2 eo2 H3 r2 s3 hr3 => ?_, fun eo2 => ?_⟩
      · rw [eo] at eo2
        obtain rfl := Option.some.inj eo2
        refine ⟨_, _, nsd_dp (SqL.of (s3 _ _ hr2)), nsd_dp (SqL.of hr3), nsd_shaped _, nsd_shaped _, _, rfl, ?_⟩
        refine ifF (by rw [nsd_eqv, decide_eq_true rfl]; rfl) ?_
        exact ⟨_, _, _, rfl, (s1.trans s2).trans s3⟩
      · rw [eo] at eo2
        cases eo2
    · refine ⟨_, rfl, _, rfl, _, rfl, nm, ex, p, as, xss, pr, res, rfl, R.I, R.n, SqL.of (s2 _ _ hp1), hv1.same s2, R.p, fun out2 eo2 => ?_, fun eo2 H3 s3 => ?_⟩
      · rw [eo] at eo2
        cases eo2
      · refine ⟨.str "trap", .str "trap", .str _, .str _, trap_shaped, trap_shaped, _, rfl, ?_⟩
        refine ifF (by decide +kernel) ?_
        exact ⟨_, _, _, rfl, (s1.trans s2).trans s3⟩
  · rintro σ H1 ⟨v14, v15, v16, rfl, s1⟩
    exact qD _ _ _ _ _ _ _ _ _ _ _ _ _ _ _ st c ap lane H1 (hS.keep s1) (hA.kp (Kp.of s1)) l6 ai
end
end K6

namespace K6
open PySem PySem.Spec PyProof.Rows L2
structure RowsAt (K : PySem.W.Frag) (st c : Addr) (H : Hp) (rp : Addr) (rows : List V) : Prop where
  at_ : H rp = some (.lst rows)
  ne : rp ≠ st ∧ rp ≠ c
  all : ∀ v ∈ rows, RowAt K st c H v
theorem RowsAt.kp {K : PySem.W.Frag} {st c rp : Addr} {H H' : Hp} {rows : List V} (h : RowsAt K st c H rp rows) (k : Kp st c H H') : RowsAt K st c H' rp rows := ⟨k _ _ h.ne.1 h.ne.2 h.at_, h.ne, fun v m => (h.all v m).kp k⟩
theorem RowsAt.add {K : PySem.W.Frag} {st c rp : Addr} {H : Hp} {rows more : List V} (h : RowsAt K st c H rp rows) (m : ∀ v ∈ more, RowAt K st c H v) : ∀ v ∈ rows ++ more, RowAt K st c H v := fun v hv => by
  rcases List.mem_append.mp hv with hv | hv
  · exact h.all v hv
  · exact m v hv
theorem mkRow {K : PySem.W.Frag} {st c l t : Addr} {H : Hp} {s : Str} {ex : V} {as : List Addr} {xs : List V} {xss : List (List Int)} {pr : PrT} {res : ReT} (hS : StAt H st c) (nl : H l = none) (hx : xs = as.map V.ref) (nt : (upd H l (.lst xs)) t = none) (hv : VecsAt K H as xss) (ne : ∀ b ∈ as, b ≠ st ∧ b ≠ c) (R : RowOk s ex xss pr res) :
    ∃ H2, H2 = upd (upd H l (.lst xs)) t (.tup [.str s, ex, .ref l]) ∧ RowAt K st c H2 (.ref t) ∧ Same H H2 ∧ StAt H2 st c := by
  have s1 := same_new nl (.lst xs)
  have n1 := St.new hS nl
  have S1 := St.put hS n1 (o := .lst xs)
  have s2 := same_new nt (.tup [.str s, ex, .ref l])
  have n2 := St.new S1 nt
  refine ⟨_, rfl, ⟨t, l, s, ex, as, xss, pr, res, rfl, upd_same, ?_, hv.same (s1.trans s2), R, n2, n1, ne⟩, s1.trans s2, St.put S1 n2⟩
  subst hx
  exact s2 _ _ upd_same
theorem laid {K : PySem.W.Frag} {st c d : Addr} {H : Hp} {rows : List V} (hS : StAt H st c) (nd : H d = none) (all : ∀ v ∈ rows, RowAt K st c H v) : ∃ G, G = upd H d (.lst rows) ∧ RowsAt K st c G d rows ∧ Same H G ∧ StAt G st c := by
  have s1 := same_new nd (.lst rows)
  have n1 := St.new hS nd
  exact ⟨_, rfl, ⟨upd_same, n1, fun v m => (all v m).kp (Kp.of s1)⟩, s1, St.put hS n1⟩
theorem VecsAt.mem {K : PySem.W.Frag} {H : Hp} {b : Addr} : ∀ {as : List Addr} {xss : List (List Int)}, VecsAt K H as xss → b ∈ as → ∃ x, H b = some (.lst (iv x))
  | [], _, _, m => absurd m List.not_mem_nil
  | a :: r, x :: t, ⟨h1, h2⟩, m => by
    rcases List.mem_cons.mp m with rfl | m
    · exact ⟨x, h1⟩
    · exact h2.mem m
  | _ :: _, [], h, _ => h.elim
/-- a row stands when the list of rows grows -/
theorem RowAt.grow {K : PySem.W.Frag} {st c rp : Addr} {H : Hp} {rows : List V} {o : HO} {v : V} (W : RowsAt K st c H rp rows) (n : rows ≠ []) (h : RowAt K st c H v) : RowAt K st c (upd H rp o) v := by
  obtain ⟨v0, r, rfl⟩ := List.exists_cons_of_ne_nil n
  obtain ⟨t0, _, _, _, _, _, _, _, rfl, ht0, _⟩ := W.all v0 (List.mem_cons_self ..)
  obtain ⟨t, p, s, ex, as, xss, pr, res, e, ht, hp, hv, R, n1, n2, n3⟩ := h
  have h1 : t ≠ rp := fun z => by rw [z, W.at_] at ht; cases ht
  have h2 : p ≠ rp := fun z => by
    rw [z, W.at_] at hp
    cases as with
    | nil => cases hp
    | cons b as =>
      have e1 : (V.ref t0 :: r) = (b :: as).map V.ref := by injection hp with e; injection e
      rw [List.map_cons] at e1
      injection e1 with e2 e3
      injection e2 with e4
      obtain ⟨x, hx⟩ := hv.mem (List.mem_cons_self ..)
      rw [← e4, ht0] at hx
      cases hx
  have h3 : ∀ b ∈ as, b ≠ rp := fun b m z => by
    obtain ⟨x, hx⟩ := hv.mem m
    rw [z, W.at_] at hx
    cases x with
    | nil => cases hx
    | cons y x =>
      have e1 : (V.ref t0 :: r) = iv (y :: x) := by injection hx with e; injection e
      cases e1
  exact ⟨t, p, s, ex, as, xss, pr, res, e, by rw [upd_ne h1]; exact ht, by rw [upd_ne h2]; exact hp, hv.upd fun m => h3 _ m rfl, R, n1, n2, n3⟩
section
variable {P : Program} {w : World} {K : PySem.W.Frag} {mg : Str → Option Value} {base : Heap} {a : Ad}
theorem rest12 (T : Txt w K mg a) {cdv : Value} {A : Around} {outer : List Env} {s : Shared} {H0 : Hp} {E : XK} {Q : VK} (hg : (A.deeper (envOfC "law" (defScope s_law) s.heap.objs.size a.law.1 cdv)).guards = some []) (hr : Room 5 (A.deeper (envOfC "law" (defScope s_law) s.heap.objs.size a.law.1 cdv))) (q : ∀ H', Q (.bl true) H') :
    ∃ t, PSs (cxOf CX0 P w K mg base ["script", "state", "k", "lengths", "total", "length", "numbers", "lane", "others", "indexes", "inside", "same", "ranged", "rows", "name", "extra", "inputs", "mixed", "sign", "a", "due", "b", "table", "trapped", "n", "item"] "law" (defScope s_law) a.law.1 cdv A outer s H0 E).nox ((defBody s_law).drop 12) t ∧ ∀ (v0 v2 v4 v5 : Option V) (st c lp np ap op xp ip sp gp : Addr) (ls nums lane os ix ins sm rg : List Int) (HB : Hp), StAt HB st c → Cs ls nums lane os ix ins sm rg → Ls st c HB lp ls → Ls st c HB np nums → Ls st c HB ap lane → Ls st c HB op os → Ls st c HB xp ix → Ls st c HB ip ins → Ls st c HB sp sm → Ls st c HB gp rg →
      t { nx := fun _ H' => Q .non H', rt := Q } [v0, some (.ref st), v2, some (.ref lp), v4, v5, some (.ref np), some (.ref ap), some (.ref op), some (.ref xp), some (.ref ip), some (.ref sp), some (.ref gp), none, none, none, none, none, none, none, none, none, none, none, none, none] HB := by
  have nd := sc_law.nd
  have G_law_pick := ok_law_pick (P := P) (w := w) (base := base) T
  obtain ⟨tD, hD, qD⟩ := rest17 (P := P) (base := base) T (cdv := cdv) (A := A) (outer := outer) (s := s) (H0 := H0) (E := E) (Q := Q) hg hr q
  refine ⟨_, (pss_cons (ps_set (i := 13) nd rfl (Or.inl rfl) (pe_lst (pa_cons (pe_tup (pa_cons pe_str (pa_cons pe_int (pa_cons (pe_lst (pa_cons (pv 7) pa_nil)) pa_nil)))) (pa_cons (pe_tup (pa_cons pe_str (pa_cons pe_non (pa_cons (pe_lst (pa_cons (pv 7) (pa_cons (pv 9) pa_nil))) pa_nil)))) (pa_cons (pe_tup (pa_cons pe_str (pa_cons pe_non (pa_cons (pe_lst (pa_cons (pv 6) pa_nil)) pa_nil)))) (pa_cons (pe_tup (pa_cons pe_str (pa_cons pe_bl (pa_cons (pe_lst (pa_cons (pv 6) pa_nil)) pa_nil)))) pa_nil))))))
  (pss_cons (ps_set (i := 13) nd rfl (Or.inl rfl) (pe_op op_cat (pv 13) (pe_lst (pa_cons (pe_tup (pa_cons pe_str (pa_cons pe_bl (pa_cons (pe_lst (pa_cons (pv 6) pa_nil)) pa_nil)))) (pa_cons (pe_tup (pa_cons pe_str (pa_cons pe_non (pa_cons (pe_lst (pa_cons (pv 6) (pa_cons (pv 7) pa_nil))) pa_nil)))) (pa_cons (pe_tup (pa_cons pe_str (pa_cons pe_non (pa_cons (pe_lst (pa_cons (pv 12) pa_nil)) pa_nil)))) (pa_cons (pe_tup (pa_cons pe_str (pa_cons pe_non (pa_cons (pe_lst (pa_cons (pv 3) (pa_cons (pv 6) pa_nil))) pa_nil)))) pa_nil)))))))
  (pss_cons (ps_set (i := 13) nd rfl (Or.inl rfl) (pe_op op_cat (pv 13) (pe_lst (pa_cons (pe_tup (pa_cons pe_str (pa_cons pe_non (pa_cons (pe_lst (pa_cons (pv 3) (pa_cons (pv 11) pa_nil))) pa_nil)))) (pa_cons (pe_tup (pa_cons pe_str (pa_cons pe_non (pa_cons (pe_lst (pa_cons (pv 6) pa_nil)) pa_nil)))) (pa_cons (pe_tup (pa_cons pe_str (pa_cons pe_non (pa_cons (pe_lst (pa_cons (pv 3) pa_nil)) pa_nil)))) (pa_cons (pe_tup (pa_cons pe_str (pa_cons pe_non (pa_cons (pe_lst (pa_cons (pv 3) (pa_cons (pv 8) pa_nil))) pa_nil)))) pa_nil)))))))
  (pss_cons (ps_set (i := 13) nd rfl (Or.inl rfl) (pe_op op_cat (pv 13) (pe_lst (pa_cons (pe_tup (pa_cons pe_str (pa_cons pe_non (pa_cons (pe_lst (pa_cons (pv 3) pa_nil)) pa_nil)))) (pa_cons (pe_tup (pa_cons pe_str (pa_cons pe_non (pa_cons (pe_lst (pa_cons (pv 3) (pa_cons (pv 9) pa_nil))) pa_nil)))) (pa_cons (pe_tup (pa_cons pe_str (pa_cons pe_non (pa_cons (pe_lst (pa_cons (pv 3) (pa_cons (pv 10) pa_nil))) pa_nil)))) pa_nil))))))
  (pss_cons (ps_expr (pe_bm PySem.F.plainAttrs_list PySem.F.slot_list_append PySem.F.type_list_append mt_append (pv 13) (pa_cons (pe_tup (pa_cons pe_str (pa_cons pe_non (pa_cons (pe_lst (pa_cons (pv 3) (pa_cons (pe_call G_law_pick (hr.mono (by omega)) rfl T.law_pick.g T.law_pick.F.kp T.law_pick.b .nil pass0 (pa_cons (pv 1) (pa_cons (pe_lst (pa_cons (pv 10) (pa_cons (pv 7) (pa_cons (pv 3) pa_nil)))) pa_nil))) pa_nil))) pa_nil)))) pa_nil)))
  hD))))), ?_⟩
  intro v0 v2 v4 v5 st c lp np ap op xp ip sp gp ls nums lane os ix ins sm rg HB SHB h h_ls h_nums h_lane h_os h_ix h_ins h_sm h_rg
  have kHB : Kp st c HB HB := Kp.rfl
  refine ⟨_, rfl, (by show 1 ≤ sizeLine; decide), fun l1 nl1 => ⟨(by show 3 ≤ sizeLine; decide), fun t1 nt1 => ?_⟩⟩
  obtain ⟨H1, e1, R1, s1, S1⟩ := mkRow (K := K) (as := [ap]) (xs := [V.ref ap]) (xss := [lane]) SHB nl1 rfl nt1 ⟨(h_lane.kp kHB).1, trivial⟩ (by simp [h_lane.2.1, h_lane.2.2]) (r_fill h)
  rw [← e1]
  have kH1 := kHB.trans (Kp.of (st := st) (c := c) s1)
  have SH1 := S1
  refine ⟨_, rfl, _, rfl, (by show 2 ≤ sizeLine; decide), fun l2 nl2 => ⟨(by show 3 ≤ sizeLine; decide), fun t2 nt2 => ?_⟩⟩
  obtain ⟨H2, e2, R2, s2, S2⟩ := mkRow (K := K) (as := [ap, xp]) (xs := [V.ref ap, V.ref xp]) (xss := [lane, ix]) SH1 nl2 rfl nt2 ⟨(h_lane.kp kH1).1, (h_ix.kp kH1).1, trivial⟩ (by simp [h_lane.2.1, h_lane.2.2, h_ix.2.1, h_ix.2.2]) (r_take h)
  rw [← e2]
  have kH2 := kH1.trans (Kp.of (st := st) (c := c) s2)
  have SH2 := S2
  refine ⟨_, rfl, (by show 1 ≤ sizeLine; decide), fun l3 nl3 => ⟨(by show 3 ≤ sizeLine; decide), fun t3 nt3 => ?_⟩⟩
  obtain ⟨H3, e3, R3, s3, S3⟩ := mkRow (K := K) (as := [np]) (xs := [V.ref np]) (xss := [nums]) SH2 nl3 rfl nt3 ⟨(h_nums.kp kH2).1, trivial⟩ (by simp [h_nums.2.1, h_nums.2.2]) (r_flags h)
  rw [← e3]
  have kH3 := kH2.trans (Kp.of (st := st) (c := c) s3)
  have SH3 := S3
  refine ⟨_, rfl, (by show 1 ≤ sizeLine; decide), fun l4 nl4 => ⟨(by show 3 ≤ sizeLine; decide), fun t4 nt4 => ?_⟩⟩
  obtain ⟨H4, e4, R4, s4, S4⟩ := mkRow (K := K) (as := [np]) (xs := [V.ref np]) (xss := [nums]) SH3 nl4 rfl nt4 ⟨(h_nums.kp kH3).1, trivial⟩ (by simp [h_nums.2.1, h_nums.2.2]) (r_where h true)
  rw [← e4]
  have kH4 := kH3.trans (Kp.of (st := st) (c := c) s4)
  have SH4 := S4
  have R1 := R1.kp (Kp.of (st := st) (c := c) ((s2.trans s3).trans s4))
  have R2 := R2.kp (Kp.of (st := st) (c := c) (s3.trans s4))
  have R3 := R3.kp (Kp.of (st := st) (c := c) s4)
  refine ⟨(by show 4 ≤ sizeLine; decide), fun d0 nd0 => ?_⟩
  obtain ⟨G0, f0, W, u0, SG0⟩ := laid SH4 nd0 (rows := [V.ref t1, V.ref t2, V.ref t3, V.ref t4]) (fun v hv => by
    simp only [List.mem_cons, List.not_mem_nil, or_false] at hv
    rcases hv with rfl | rfl | rfl | rfl
    · exact R1
    · exact R2
    · exact R3
    · exact R4)
  rw [← f0]
  have kG0 := kH4.trans (Kp.of (st := st) (c := c) u0)
  refine ⟨_, rfl, _, rfl, (by show 1 ≤ sizeLine; decide), fun l5 nl5 => ⟨(by show 3 ≤ sizeLine; decide), fun t5 nt5 => ?_⟩⟩
  obtain ⟨H5, e5, R5, s5, S5⟩ := mkRow (K := K) (as := [np]) (xs := [V.ref np]) (xss := [nums]) SG0 nl5 rfl nt5 ⟨(h_nums.kp kG0).1, trivial⟩ (by simp [h_nums.2.1, h_nums.2.2]) (r_where h false)
  rw [← e5]
  have kH5 := kG0.trans (Kp.of (st := st) (c := c) s5)
  have SH5 := S5
  refine ⟨_, rfl, _, rfl, (by show 2 ≤ sizeLine; decide), fun l6 nl6 => ⟨(by show 3 ≤ sizeLine; decide), fun t6 nt6 => ?_⟩⟩
  obtain ⟨H6, e6, R6, s6, S6⟩ := mkRow (K := K) (as := [np, ap]) (xs := [V.ref np, V.ref ap]) (xss := [nums, lane]) SH5 nl6 rfl nt6 ⟨(h_nums.kp kH5).1, (h_lane.kp kH5).1, trivial⟩ (by simp [h_nums.2.1, h_nums.2.2, h_lane.2.1, h_lane.2.2]) (r_join h)
  rw [← e6]
  have kH6 := kH5.trans (Kp.of (st := st) (c := c) s6)
  have SH6 := S6
  refine ⟨_, rfl, (by show 1 ≤ sizeLine; decide), fun l7 nl7 => ⟨(by show 3 ≤ sizeLine; decide), fun t7 nt7 => ?_⟩⟩
  obtain ⟨H7, e7, R7, s7, S7⟩ := mkRow (K := K) (as := [gp]) (xs := [V.ref gp]) (xss := [rg]) SH6 nl7 rfl nt7 ⟨(h_rg.kp kH6).1, trivial⟩ (by simp [h_rg.2.1, h_rg.2.2]) (r_range h)
  rw [← e7]
  have kH7 := kH6.trans (Kp.of (st := st) (c := c) s7)
  have SH7 := S7
  refine ⟨_, rfl, _, rfl, (by show 2 ≤ sizeLine; decide), fun l8 nl8 => ⟨(by show 3 ≤ sizeLine; decide), fun t8 nt8 => ?_⟩⟩
  obtain ⟨H8, e8, R8, s8, S8⟩ := mkRow (K := K) (as := [lp, np]) (xs := [V.ref lp, V.ref np]) (xss := [ls, nums]) SH7 nl8 rfl nt8 ⟨(h_ls.kp kH7).1, (h_nums.kp kH7).1, trivial⟩ (by simp [h_ls.2.1, h_ls.2.2, h_nums.2.1, h_nums.2.2]) (r_sums h)
  rw [← e8]
  have kH8 := kH7.trans (Kp.of (st := st) (c := c) s8)
  have SH8 := S8
  have R5 := R5.kp (Kp.of (st := st) (c := c) ((s6.trans s7).trans s8))
  have R6 := R6.kp (Kp.of (st := st) (c := c) (s7.trans s8))
  have R7 := R7.kp (Kp.of (st := st) (c := c) s8)
  have W := W.kp (Kp.of (st := st) (c := c) (((s5.trans s6).trans s7).trans s8))
  have mm1 : ∀ v ∈ ([V.ref t5, V.ref t6, V.ref t7, V.ref t8] : List V), RowAt K st c H8 v := fun v hv => by
    simp only [List.mem_cons, List.not_mem_nil, or_false] at hv
    rcases hv with rfl | rfl | rfl | rfl
    · exact R5
    · exact R6
    · exact R7
    · exact R8
  refine ⟨(by show 4 ≤ sizeLine; decide), fun x1 nx1 => ?_⟩
  have y1 := same_new nx1 (.lst [V.ref t5, V.ref t6, V.ref t7, V.ref t8])
  have W := W.kp (Kp.of (st := st) (c := c) y1)
  have SX1 := St.put SH8 (St.new SH8 nx1) (o := .lst [V.ref t5, V.ref t6, V.ref t7, V.ref t8])
  refine ⟨_, x1, _, _, rfl, rfl, W.at_, upd_same, by show 8 ≤ sizeLine; decide, fun d1 nd1 => ?_⟩
  obtain ⟨G1, f1, W, u1, SG1⟩ := laid SX1 nd1 (W.add (fun v hv => RowAt.kp (mm1 v hv) (Kp.of (st := st) (c := c) y1)))
  rw [← f1]
  have kG1 := (kH8.trans (Kp.of (st := st) (c := c) y1)).trans (Kp.of (st := st) (c := c) u1)
  refine ⟨_, rfl, _, rfl, _, rfl, (by show 2 ≤ sizeLine; decide), fun l9 nl9 => ⟨(by show 3 ≤ sizeLine; decide), fun t9 nt9 => ?_⟩⟩
  obtain ⟨H9, e9, R9, s9, S9⟩ := mkRow (K := K) (as := [lp, sp]) (xs := [V.ref lp, V.ref sp]) (xss := [ls, sm]) SG1 nl9 rfl nt9 ⟨(h_ls.kp kG1).1, (h_sm.kp kG1).1, trivial⟩ (by simp [h_ls.2.1, h_ls.2.2, h_sm.2.1, h_sm.2.2]) (r_same h)
  rw [← e9]
  have kH9 := kG1.trans (Kp.of (st := st) (c := c) s9)
  have SH9 := S9
  refine ⟨_, rfl, (by show 1 ≤ sizeLine; decide), fun l10 nl10 => ⟨(by show 3 ≤ sizeLine; decide), fun t10 nt10 => ?_⟩⟩
  obtain ⟨H10, e10, R10, s10, S10⟩ := mkRow (K := K) (as := [np]) (xs := [V.ref np]) (xss := [nums]) SH9 nl10 rfl nt10 ⟨(h_nums.kp kH9).1, trivial⟩ (by simp [h_nums.2.1, h_nums.2.2]) (r_weave h)
  rw [← e10]
  have kH10 := kH9.trans (Kp.of (st := st) (c := c) s10)
  have SH10 := S10
  refine ⟨_, rfl, (by show 1 ≤ sizeLine; decide), fun l11 nl11 => ⟨(by show 3 ≤ sizeLine; decide), fun t11 nt11 => ?_⟩⟩
  obtain ⟨H11, e11, R11, s11, S11⟩ := mkRow (K := K) (as := [lp]) (xs := [V.ref lp]) (xss := [ls]) SH10 nl11 rfl nt11 ⟨(h_ls.kp kH10).1, trivial⟩ (by simp [h_ls.2.1, h_ls.2.2]) (r_repeat h)
  rw [← e11]
  have kH11 := kH10.trans (Kp.of (st := st) (c := c) s11)
  have SH11 := S11
  refine ⟨_, rfl, _, rfl, (by show 2 ≤ sizeLine; decide), fun l12 nl12 => ⟨(by show 3 ≤ sizeLine; decide), fun t12 nt12 => ?_⟩⟩
  obtain ⟨H12, e12, R12, s12, S12⟩ := mkRow (K := K) (as := [lp, op]) (xs := [V.ref lp, V.ref op]) (xss := [ls, os]) SH11 nl12 rfl nt12 ⟨(h_ls.kp kH11).1, (h_os.kp kH11).1, trivial⟩ (by simp [h_ls.2.1, h_ls.2.2, h_os.2.1, h_os.2.2]) (r_zip h)
  rw [← e12]
  have kH12 := kH11.trans (Kp.of (st := st) (c := c) s12)
  have SH12 := S12
  have R9 := R9.kp (Kp.of (st := st) (c := c) ((s10.trans s11).trans s12))
  have R10 := R10.kp (Kp.of (st := st) (c := c) (s11.trans s12))
  have R11 := R11.kp (Kp.of (st := st) (c := c) s12)
  have W := W.kp (Kp.of (st := st) (c := c) (((s9.trans s10).trans s11).trans s12))
  have mm2 : ∀ v ∈ ([V.ref t9, V.ref t10, V.ref t11, V.ref t12] : List V), RowAt K st c H12 v := fun v hv => by
    simp only [List.mem_cons, List.not_mem_nil, or_false] at hv
    rcases hv with rfl | rfl | rfl | rfl
    · exact R9
    · exact R10
    · exact R11
    · exact R12
  refine ⟨(by show 4 ≤ sizeLine; decide), fun x2 nx2 => ?_⟩
  have y2 := same_new nx2 (.lst [V.ref t9, V.ref t10, V.ref t11, V.ref t12])
  have W := W.kp (Kp.of (st := st) (c := c) y2)
  have SX2 := St.put SH12 (St.new SH12 nx2) (o := .lst [V.ref t9, V.ref t10, V.ref t11, V.ref t12])
  refine ⟨_, x2, _, _, rfl, rfl, W.at_, upd_same, by show 12 ≤ sizeLine; decide, fun d2 nd2 => ?_⟩
  obtain ⟨G2, f2, W, u2, SG2⟩ := laid SX2 nd2 (W.add (fun v hv => RowAt.kp (mm2 v hv) (Kp.of (st := st) (c := c) y2)))
  rw [← f2]
  have kG2 := (kH12.trans (Kp.of (st := st) (c := c) y2)).trans (Kp.of (st := st) (c := c) u2)
  refine ⟨_, rfl, _, rfl, (by show 1 ≤ sizeLine; decide), fun l13 nl13 => ⟨(by show 3 ≤ sizeLine; decide), fun t13 nt13 => ?_⟩⟩
  obtain ⟨H13, e13, R13, s13, S13⟩ := mkRow (K := K) (as := [lp]) (xs := [V.ref lp]) (xss := [ls]) SG2 nl13 rfl nt13 ⟨(h_ls.kp kG2).1, trivial⟩ (by simp [h_ls.2.1, h_ls.2.2]) (r_count h)
  rw [← e13]
  have kH13 := kG2.trans (Kp.of (st := st) (c := c) s13)
  have SH13 := S13
  refine ⟨_, rfl, _, rfl, (by show 2 ≤ sizeLine; decide), fun l14 nl14 => ⟨(by show 3 ≤ sizeLine; decide), fun t14 nt14 => ?_⟩⟩
  obtain ⟨H14, e14, R14, s14, S14⟩ := mkRow (K := K) (as := [lp, xp]) (xs := [V.ref lp, V.ref xp]) (xss := [ls, ix]) SH13 nl14 rfl nt14 ⟨(h_ls.kp kH13).1, (h_ix.kp kH13).1, trivial⟩ (by simp [h_ls.2.1, h_ls.2.2, h_ix.2.1, h_ix.2.2]) (r_pick h)
  rw [← e14]
  have kH14 := kH13.trans (Kp.of (st := st) (c := c) s14)
  have SH14 := S14
  refine ⟨_, rfl, _, rfl, (by show 2 ≤ sizeLine; decide), fun l15 nl15 => ⟨(by show 3 ≤ sizeLine; decide), fun t15 nt15 => ?_⟩⟩
  obtain ⟨H15, e15, R15, s15, S15⟩ := mkRow (K := K) (as := [lp, ip]) (xs := [V.ref lp, V.ref ip]) (xss := [ls, ins]) SH14 nl15 rfl nt15 ⟨(h_ls.kp kH14).1, (h_ins.kp kH14).1, trivial⟩ (by simp [h_ls.2.1, h_ls.2.2, h_ins.2.1, h_ins.2.2]) (r_place h h.il h.ii)
  rw [← e15]
  have kH15 := kH14.trans (Kp.of (st := st) (c := c) s15)
  have SH15 := S15
  have R13 := R13.kp (Kp.of (st := st) (c := c) (s14.trans s15))
  have R14 := R14.kp (Kp.of (st := st) (c := c) s15)
  have W := W.kp (Kp.of (st := st) (c := c) ((s13.trans s14).trans s15))
  have mm3 : ∀ v ∈ ([V.ref t13, V.ref t14, V.ref t15] : List V), RowAt K st c H15 v := fun v hv => by
    simp only [List.mem_cons, List.not_mem_nil, or_false] at hv
    rcases hv with rfl | rfl | rfl
    · exact R13
    · exact R14
    · exact R15
  refine ⟨(by show 3 ≤ sizeLine; decide), fun x3 nx3 => ?_⟩
  have y3 := same_new nx3 (.lst [V.ref t13, V.ref t14, V.ref t15])
  have W := W.kp (Kp.of (st := st) (c := c) y3)
  have SX3 := St.put SH15 (St.new SH15 nx3) (o := .lst [V.ref t13, V.ref t14, V.ref t15])
  refine ⟨_, x3, _, _, rfl, rfl, W.at_, upd_same, by show 15 ≤ sizeLine; decide, fun d3 nd3 => ?_⟩
  obtain ⟨G3, f3, W, u3, SG3⟩ := laid SX3 nd3 (W.add (fun v hv => RowAt.kp (mm3 v hv) (Kp.of (st := st) (c := c) y3)))
  rw [← f3]
  have kG3 := (kH15.trans (Kp.of (st := st) (c := c) y3)).trans (Kp.of (st := st) (c := c) u3)
  refine ⟨_, rfl, .inl ⟨rfl, _, SqL.of W.at_⟩, _, rfl, _, rfl, _, rfl, _, rfl, _, rfl, (by show 3 ≤ sizeLine; decide), fun p hp => ?_⟩
  have np_ := St.new SG3 hp
  have sp_ := same_new hp (.lst [V.ref ip, V.ref ap, V.ref lp])
  refine ⟨st, c, p, _, rfl, St.put SG3 np_, upd_same, np_.1, np_.2, by show 0 < 3; decide, by show 3 ≤ 1000; decide, fun H16 x g hx => ?_⟩
  have k16 := (Kp.of (st := st) (c := c) sp_).trans g.1
  have kH16 := kG3.trans k16
  have W := W.kp k16
  obtain ⟨pa, ps, rfl, hpa, pl, pi⟩ : ∃ (pa : Addr) (ps : List Int), x = .ref pa ∧ Ls st c H16 pa ps ∧ ps.length = ls.length ∧ ∀ n ∈ ps, InR n := by
    simp only [List.mem_cons, List.not_mem_nil, or_false] at hx
    rcases hx with rfl | rfl | rfl
    · exact ⟨_, _, rfl, h_ins.kp kH16, h.il, h.ii⟩
    · exact ⟨_, _, rfl, h_lane.kp kH16, h.al, h.ai⟩
    · exact ⟨_, _, rfl, h_ls.kp kH16, rfl, h.li⟩
  refine ⟨(by show 2 ≤ sizeLine; decide), fun l16 nl16 => ⟨(by show 3 ≤ sizeLine; decide), fun t16 nt16 => ?_⟩⟩
  obtain ⟨HL, eL, RL, sL, SL⟩ := mkRow (K := K) (as := [lp, pa]) (xs := [V.ref lp, V.ref pa]) (xss := [ls, ps]) g.2 nl16 rfl nt16 ⟨(h_ls.kp kH16).1, hpa.1, trivial⟩ (by simp [h_ls.2.1, h_ls.2.2, hpa.2.1, hpa.2.2]) (r_place h pl pi)
  rw [← eL]
  have W := W.kp (Kp.of (st := st) (c := c) sL)
  refine ⟨_, _, _, rfl, rfl, W.at_, by show 15 < sizeLine; decide, ?_⟩
  have nW := W.ne
  have rn : ([V.ref t1, V.ref t2, V.ref t3, V.ref t4] ++ [V.ref t5, V.ref t6, V.ref t7, V.ref t8] ++ [V.ref t9, V.ref t10, V.ref t11, V.ref t12] ++ [V.ref t13, V.ref t14, V.ref t15]) ≠ [] := by simp
  have kL := kH16.trans (Kp.of (st := st) (c := c) sL)
  have hA := h_lane.kp kL
  refine qD _ _ _ _ _ _ _ _ _ _ _ st c ap _ lane _ _ (St.put SL nW) ⟨?_, hA.2⟩ (by rw [h.al]; exact h.l6) h.ai upd_same fun i v hi => ?_
  · rw [upd_ne]
    · exact hA.1
    · intro z
      have := hA.1
      rw [z, W.at_] at this
      have e1 := HO.lst.inj (Option.some.inj this)
      clear this
      cases lane with
      | nil => exact absurd e1 rn
      | cons y r =>
        have e2 := congrArg List.head? e1
        cases e2
  · have m := List.mem_of_getElem? hi
    rcases List.mem_append.mp m with m | m
    · exact RowAt.grow W rn (W.all v m)
    · obtain rfl := List.mem_singleton.mp m
      exact RowAt.grow W rn RL
end
end K6

namespace K6
open PySem PySem.Spec PyProof.Rows L2
theorem drawn0 {st c D : Addr} {H : Hp} {P : Int → Prop} (hS : StAt H st c) (nD : H D = none) : ∃ acc : List Int, Go st c H (upd H D (.lst [])) ∧ (upd H D (.lst [])) D = some (.lst (iv acc)) ∧ acc.length = 0 ∧ ∀ n ∈ acc, P n :=
  ⟨[], Go.same hS (same_new nD _), upd_same, rfl, by simp⟩
section
variable {P : Program} {w : World} {K : PySem.W.Frag} {mg : Str → Option Value} {base : Heap} {a : Ad}
theorem rest9 (T : Txt w K mg a) {cdv : Value} {A : Around} {outer : List Env} {s : Shared} {H0 : Hp} {E : XK} {Q : VK} (hg : (A.deeper (envOfC "law" (defScope s_law) s.heap.objs.size a.law.1 cdv)).guards = some []) (hr : Room 5 (A.deeper (envOfC "law" (defScope s_law) s.heap.objs.size a.law.1 cdv))) (q : ∀ H', Q (.bl true) H') :
    ∃ t, PSs (cxOf CX0 P w K mg base ["script", "state", "k", "lengths", "total", "length", "numbers", "lane", "others", "indexes", "inside", "same", "ranged", "rows", "name", "extra", "inputs", "mixed", "sign", "a", "due", "b", "table", "trapped", "n", "item"] "law" (defScope s_law) a.law.1 cdv A outer s H0 E).nox ((defBody s_law).drop 9) t ∧ ∀ (v0 v2 v4 v5 : Option V) (st c lp np ap op xp : Addr) (ls nums lane os ix : List Int) (H : Hp), StAt H st c → ls.length ≤ 6 → (∀ n ∈ ls, 0 ≤ n ∧ n ≤ 3) → nums.length = ls.sum.toNat → (∀ n ∈ nums, InR n) → lane.length = ls.length → (∀ n ∈ lane, InR n) → os.length = ls.length → (∀ n ∈ os, 0 ≤ n ∧ n ≤ 2) → ix.length ≤ 5 → (∀ n ∈ ix, 0 ≤ n ∧ n < ls.length) → Ls st c H lp ls → Ls st c H np nums → Ls st c H ap lane → Ls st c H op os → Ls st c H xp ix →
      t { nx := fun _ H' => Q .non H', rt := Q } [v0, some (.ref st), v2, some (.ref lp), v4, v5, some (.ref np), some (.ref ap), some (.ref op), some (.ref xp), none, none, none, none, none, none, none, none, none, none, none, none, none, none, none, none] H := by
  have nd := sc_law.nd
  have G_law_pick := ok_law_pick (P := P) (w := w) (base := base) T
  obtain ⟨tD, hD, qD⟩ := rest12 (P := P) (base := base) T (cdv := cdv) (A := A) (outer := outer) (s := s) (H0 := H0) (E := E) (Q := Q) hg hr q
  refine ⟨_, (pss_cons (ps_setLc (i := 10) (own := [("k", 2)]) (g := gName 2) (tt := tYes) rfl nd rfl rfl (sw_true rfl rfl rfl (by decide +kernel)) (pi_range1 rfl T.range (pa_cons (pe_callB call_len_seq (by rfl) T.len PySem.boot_len (pa_cons (pv 3) pa_nil)) pa_nil)) (blkOk_by (N := ["script", "state", "k", "lengths", "total", "length", "numbers", "lane", "others", "indexes", "inside", "same", "ranged", "rows", "name", "extra", "inputs", "mixed", "sign", "a", "due", "b", "table", "trapped", "n", "item"]) (sc := defScope s_law) (by decide +kernel)) (fun _ _ _ _ _ => (pg_name (i := 2) nd rfl (Or.inl rfl))) (fun _ _ _ _ _ => pts_nil) (fun _ _ _ _ _ => (pe_callB (call_max2 rfl) (by rfl) T.max (by decide +kernel) (pa_cons pe_int (pa_cons (pe_callB (call_min2 rfl) (by rfl) T.min (by decide +kernel) (pa_cons (pe_ix (ix_listK (K := K) rfl) (pv 7) (pv 2) (fun _ _ => rfl)) (pa_cons (pe_op op_sub (pe_ix (ix_listK (K := K) rfl) (pv 3) (pv 2) (fun _ _ => rfl)) pe_int) pa_nil))) pa_nil)))))
  (pss_cons (ps_set (i := 11) nd rfl (Or.inl rfl) (pe_call G_law_pick (hr.mono (by omega)) rfl T.law_pick.g T.law_pick.F.kp T.law_pick.b .nil pass0 (pa_cons (pv 1) (pa_cons (pe_lst (pa_cons (pe_callTy call_list_of (by rfl) T.list (by decide +kernel) (pa_cons (pv 3) pa_nil)) (pa_cons (pv 8) pa_nil))) pa_nil))))
  (pss_cons (ps_setLc (i := 12) (own := [("n", 24)]) (g := gName 24) (tt := tYes) rfl nd rfl rfl (sw_true rfl rfl rfl (by decide +kernel)) (pi_list (pv 7)) (blkOk_by (N := ["script", "state", "k", "lengths", "total", "length", "numbers", "lane", "others", "indexes", "inside", "same", "ranged", "rows", "name", "extra", "inputs", "mixed", "sign", "a", "due", "b", "table", "trapped", "n", "item"]) (sc := defScope s_law) (by decide +kernel)) (fun _ _ _ _ _ => (pg_name (i := 24) nd rfl (Or.inl rfl))) (fun _ _ _ _ _ => pts_nil) (fun _ _ _ _ _ => (pe_call G_law_pick (hr.mono (by omega)) rfl T.law_pick.g T.law_pick.F.kp T.law_pick.b .nil pass0 (pa_cons (pv 1) (pa_cons (pe_lst (pa_cons (pv 24) (pa_cons (pe_op op_mod (pe_callB call_abs (by rfl) T.abs (by decide +kernel) (pa_cons (pe_callTy call_int1 (by rfl) T.int (by decide +kernel) (pa_cons (pv 24) pa_nil)) pa_nil)) pe_int) (pa_cons pe_int (pa_cons pe_int (pa_cons pe_int pa_nil)))))) pa_nil)))))
  hD))), ?_⟩
  intro v0 v2 v4 v5 st c lp np ap op xp ls nums lane os ix H hS l6 l3 nl ni al ai ol o2 xl xi hl hn ha ho hx
  refine ⟨_, rfl, lp, _, rfl, .inl hl.seq, _, rfl, Int.natCast_nonneg _, by rw [iv_len]; omega, fun I nI => lc_it (walk_range (lo := 0) (n := (iv ls).length)) (fun i H1 => ∃ acc : List Int, Same H H1 ∧ H1 I = some (.lst (iv acc)) ∧ acc.length = i ∧ ∀ n ∈ acc, InR n) ⟨[], same_new nI _, upd_same, rfl, by simp⟩ (fun _ _ _ _ => trivial) ?_ ?_⟩
  · rintro i x Hx H1 hi ⟨acc, s1, hI, il, all⟩ ⟨rfl, rfl⟩
    rw [iv_len] at hi
    have ga : atI (iv lane) (0 + (i : Int)) = some (.int (at_ lane i)) := by rw [Int.zero_add]; exact atI_nat (get_iv (at_get (by omega)))
    have gl : atI (iv ls) (0 + (i : Int)) = some (.int (at_ ls i)) := by rw [Int.zero_add]; exact atI_nat (get_iv (at_get hi))
    have ra := at_all ai (show i < lane.length by omega)
    have rl := at_all l3 hi
    refine ⟨rfl, _, rfl, _, rfl, ap, _, _, _, rfl, rfl, s1.seq ha.seq, ga, _, rfl, _, rfl, lp, _, _, _, rfl, rfl, s1.seq hl.seq, gl, _, _, rfl, rfl, _, _, rfl, _, _, rfl, ?_⟩
    refine ⟨iv acc, hI, by rw [iv_len, il]; exact Nat.lt_trans (show i < 1000 by omega) (by decide), acc ++ [_], fun b o eb => ?_, by rw [upd_same]; simp [iv]; rfl, by simp [il], fun m hm => ?_⟩
    · rw [upd_ne (ne_of_none eb nI)]; exact s1 _ _ eb
    · rcases List.mem_append.mp hm with hm | hm
      · exact all m hm
      · rw [List.mem_singleton.mp hm]
        unfold InR at *
        split <;> split <;> omega
  rintro H1 ⟨ins, s1, hI, il, ii⟩
  rw [iv_len] at il
  have S1 := hS.keep s1
  have k1 := Kp.of (st := st) (c := c) s1
  have hi1 : Ls st c H1 I ins := ⟨hI, St.new hS nI⟩
  refine ⟨_, rfl, _, rfl, lp, _, rfl, .inl (hl.kp k1).seq, fun l nl_ => ?_⟩
  have sl := same_new nl_ (.lst (iv ls))
  have nl' := St.new S1 nl_
  have S2 := St.put S1 nl' (o := .lst (iv ls))
  refine ⟨_, rfl, (by show 2 ≤ sizeLine; decide), fun p hp => ?_⟩
  have np_ := St.new S2 hp
  have sp_ := same_new hp (.lst [V.ref l, V.ref op])
  refine ⟨st, c, p, _, rfl, St.put S2 np_, upd_same, np_.1, np_.2, by show 0 < 2; decide, by show 2 ≤ 1000; decide, fun H2 x g hx2 => ?_⟩
  have k2 := (k1.trans (Kp.of (st := st) (c := c) (sl.trans sp_))).trans g.1
  have hi2 := hi1.kp ((Kp.of (st := st) (c := c) (sl.trans sp_)).trans g.1)
  have hl2 : Ls st c H2 l ls := Ls.kp ⟨upd_same, nl'⟩ ((Kp.of (st := st) (c := c) sp_).trans g.1)
  obtain ⟨ps, sm, rfl, hs2, smi, sml⟩ : ∃ (ps : Addr) (sm : List Int), x = .ref ps ∧ Ls st c H2 ps sm ∧ (∀ n ∈ sm, InR n) ∧ sm.length = ls.length := by
    simp only [List.mem_cons, List.not_mem_nil, or_false] at hx2
    rcases hx2 with rfl | rfl
    · exact ⟨_, _, rfl, hl2, fun n hn => by have := l3 n hn; unfold InR; omega, rfl⟩
    · exact ⟨_, _, rfl, ho.kp k2, fun n hn => by have := o2 n hn; unfold InR; omega, ol⟩
  have ha2 := ha.kp k2
  refine ⟨_, rfl, ap, rfl, ⟨_, ha2.seq⟩, fun R nR => lc_it (walk_list (K := K) (a := ap) (xs := iv lane)) (fun i H3 => ∃ acc : List Int, Go st c H2 H3 ∧ H3 R = some (.lst (iv acc)) ∧ acc.length = i ∧ ∀ n ∈ acc, InR n) (drawn0 g.2 nR) (fun i H3 _ h => by obtain ⟨_, g, _⟩ := h; exact (ha2.kp g.1).seq) ?_ ?_⟩
  · rintro i y H3 H4 hi ⟨acc, g3, hR, rl, all⟩ ⟨rfl, hy⟩
    rw [iv_len] at hi
    obtain ⟨m, hm, rfl⟩ := iv_get hy
    have mi := ai m (List.mem_of_getElem? hm)
    refine ⟨rfl, _, rfl, _, rfl, _, rfl, .inl ⟨_, rfl, _, rfl, _, _, rfl, rfl, (by show (0 : Int) < 1001; decide), (by show 5 ≤ sizeLine; decide), fun p5 hp5 => ?_⟩⟩
    have n5 := St.new g3.2 hp5
    have g5 := Go.same g3.2 (same_new hp5 (.lst [V.int m, V.int ((if m < 0 then -m else m) % 1001), V.int 1000, V.int 1001, V.int 0]))
    refine ⟨st, c, p5, _, rfl, St.put g3.2 n5, upd_same, n5.1, n5.2, by show 0 < 5; decide, by show 5 ≤ 1000; decide, fun H6 x g6 hx6 => ?_⟩
    obtain ⟨n, rfl, hn6⟩ : ∃ n : Int, x = .int n ∧ InR n := by
      simp only [List.mem_cons, List.not_mem_nil, or_false] at hx6
      rcases hx6 with rfl | rfl | rfl | rfl | rfl
      · exact ⟨_, rfl, mi⟩
      · exact ⟨_, rfl, by unfold InR; omega⟩
      · exact ⟨_, rfl, by unfold InR; omega⟩
      · exact ⟨_, rfl, by unfold InR; omega⟩
      · exact ⟨_, rfl, by unfold InR; omega⟩
    exact tickD g.2 nR g3 hR rl all (g5.trans g6) hn6 (by omega)
  rintro H3 ⟨rg, g3, hR, rl, ri⟩
  rw [iv_len] at rl
  have k3 := k2.trans g3.1
  exact qD _ _ _ _ st c lp np ap op xp I ps R ls nums lane os ix ins sm rg H3 g3.2 ⟨l6, l3, nl, ni, al, ai, ol, o2, xl, xi, il, ii, sml, smi, rl, ri⟩ (hl.kp k3) (hn.kp k3) (ha.kp k3) (ho.kp k3) (hx.kp k3) (hi2.kp g3.1) (hs2.kp g3.1) ⟨hR, St.new g.2 nR⟩
end
end K6

namespace K6
open PySem PySem.Spec PyProof.Rows L2
def spLaw (K : PySem.W.Frag) : Sp := fun vs H Q _ => ∃ (p : Addr) (ns : List Int), vs = [.ref p] ∧ SqL K H p (ns.map V.int) ∧ ns.length ≤ 63 ∧ ∀ H', Q (.bl true) H'
section
variable {P : Program} {w : World} {K : PySem.W.Frag} {mg : Str → Option Value} {base : Heap} {a : Ad}
theorem ok_law (T : Txt w K mg a) : GX.FnG P w K mg base CX0 6 a.law.1 a.law.2 ["script"] (spLaw K) := by
  refine GX.fnG T.law.F sc_law (fun vs H Q E h => ?_) (fun cdv A outer s H vs Q E hg hr h => ?_)
  · obtain ⟨p, ns, rfl, _⟩ := h
    rfl
  obtain ⟨p, ns, rfl, hS, h63, q⟩ := h
  have nd := sc_law.nd
  have G_law_state := ok_law_state (P := P) (w := w) (base := base) T
  have G_law_draw := ok_law_draw (P := P) (w := w) (base := base) T
  have G_law_number := ok_law_number (P := P) (w := w) (base := base) T
  suffices hh : ∃ t, PSs (cxOf CX0 P w K mg base ["script", "state", "k", "lengths", "total", "length", "numbers", "lane", "others", "indexes", "inside", "same", "ranged", "rows", "name", "extra", "inputs", "mixed", "sign", "a", "due", "b", "table", "trapped", "n", "item"] "law" (defScope s_law) a.law.1 cdv A outer s H E).nox (defBody s_law) t ∧ t { nx := fun _ H' => Q .non H', rt := Q } (start ["script", "state", "k", "lengths", "total", "length", "numbers", "lane", "others", "indexes", "inside", "same", "ranged", "rows", "name", "extra", "inputs", "mixed", "sign", "a", "due", "b", "table", "trapped", "n", "item"] [V.ref p]) H by
    obtain ⟨t, ht, hq⟩ := hh
    exact ⟨t, ht.nox, hq⟩
  obtain ⟨tD, hD, qD⟩ := rest9 (P := P) (base := base) T (cdv := cdv) (A := A) (outer := outer) (s := s) (H0 := H) (E := E) (Q := Q) hg hr q
  refine ⟨_, (pss_cons (ps_set (i := 1) nd rfl (Or.inr rfl) (pe_call G_law_state (hr.mono (by omega)) rfl T.law_state.g T.law_state.F.kp T.law_state.b .nil pass0 (pa_cons (pv 0) pa_nil)))
  (pss_cons (ps_set (i := 3) nd rfl (Or.inr rfl) (pe_lc (own := [("k", 2)]) (g := gName 2) (tt := tYes) rfl nd (pi_range1 rfl T.range (pa_cons (pe_call G_law_draw (hr.mono (by omega)) rfl T.law_draw.g T.law_draw.F.kp T.law_draw.b .nil pass0 (pa_cons (pv 1) (pa_cons pe_int pa_nil))) pa_nil)) (blkOk_by (N := ["script", "state", "k", "lengths", "total", "length", "numbers", "lane", "others", "indexes", "inside", "same", "ranged", "rows", "name", "extra", "inputs", "mixed", "sign", "a", "due", "b", "table", "trapped", "n", "item"]) (sc := defScope s_law) (by decide +kernel)) (fun _ _ _ _ _ => (pg_name (i := 2) nd rfl (Or.inl rfl))) (fun _ _ _ _ _ => pts_nil) (fun _ _ _ _ _ => (pe_call G_law_draw (hr.mono (by omega)) rfl T.law_draw.g T.law_draw.F.kp T.law_draw.b .nil pass0 (pa_cons (pv 1) (pa_cons pe_int pa_nil))))))
  (pss_cons (ps_set (i := 4) nd rfl (Or.inl rfl) pe_int)
  (pss_cons (ps_for PassesOwn.never rfl (pi_list (pv 3)) (pg_name (i := 5) nd rfl (Or.inl rfl)) (pss_one (ps_set (i := 4) nd rfl (Or.inl rfl) (pe_op op_add (pv 4) (pv 5)))))
  (pss_cons (ps_setLc (i := 6) (own := [("k", 2)]) (g := gName 2) (tt := tYes) rfl nd rfl rfl (sw_true rfl rfl rfl (by decide +kernel)) (pi_range1 rfl T.range (pa_cons (pv 4) pa_nil)) (blkOk_by (N := ["script", "state", "k", "lengths", "total", "length", "numbers", "lane", "others", "indexes", "inside", "same", "ranged", "rows", "name", "extra", "inputs", "mixed", "sign", "a", "due", "b", "table", "trapped", "n", "item"]) (sc := defScope s_law) (by decide +kernel)) (fun _ _ _ _ _ => (pg_name (i := 2) nd rfl (Or.inl rfl))) (fun _ _ _ _ _ => pts_nil) (fun _ _ _ _ _ => (pe_call G_law_number (hr.mono (by omega)) rfl T.law_number.g T.law_number.F.kp T.law_number.b .nil pass0 (pa_cons (pv 1) pa_nil))))
  (pss_cons (ps_set (i := 7) nd rfl (Or.inr rfl) (pe_lc (own := [("length", 5)]) (g := gName 5) (tt := tYes) rfl nd (pi_list (pv 3)) (blkOk_by (N := ["script", "state", "k", "lengths", "total", "length", "numbers", "lane", "others", "indexes", "inside", "same", "ranged", "rows", "name", "extra", "inputs", "mixed", "sign", "a", "due", "b", "table", "trapped", "n", "item"]) (sc := defScope s_law) (by decide +kernel)) (fun _ _ _ _ _ => (pg_name (i := 5) nd rfl (Or.inl rfl))) (fun _ _ _ _ _ => pts_nil) (fun _ _ _ _ _ => (pe_call G_law_number (hr.mono (by omega)) rfl T.law_number.g T.law_number.F.kp T.law_number.b .nil pass0 (pa_cons (pv 1) pa_nil)))))
  (pss_cons (ps_setLc (i := 8) (own := [("length", 5)]) (g := gName 5) (tt := tYes) rfl nd rfl rfl (sw_true rfl rfl rfl (by decide +kernel)) (pi_list (pv 3)) (blkOk_by (N := ["script", "state", "k", "lengths", "total", "length", "numbers", "lane", "others", "indexes", "inside", "same", "ranged", "rows", "name", "extra", "inputs", "mixed", "sign", "a", "due", "b", "table", "trapped", "n", "item"]) (sc := defScope s_law) (by decide +kernel)) (fun _ _ _ _ _ => (pg_name (i := 5) nd rfl (Or.inl rfl))) (fun _ _ _ _ _ => pts_nil) (fun _ _ _ _ _ => (pe_call G_law_draw (hr.mono (by omega)) rfl T.law_draw.g T.law_draw.F.kp T.law_draw.b .nil pass0 (pa_cons (pv 1) (pa_cons pe_int pa_nil)))))
  (pss_cons (ps_set (i := 9) nd rfl (Or.inl rfl) (pe_lst pa_nil))
  (pss_cons (ps_if (pt_cmpR op_gt (pe_callB call_len_seq (by rfl) T.len PySem.boot_len (pa_cons (pv 3) pa_nil)) pe_int (nomark _)) (pss_one (ps_setLc (i := 9) (own := [("k", 2)]) (g := gName 2) (tt := tYes) rfl nd rfl rfl (sw_true rfl rfl rfl (by decide +kernel)) (pi_range1 rfl T.range (pa_cons (pe_call G_law_draw (hr.mono (by omega)) rfl T.law_draw.g T.law_draw.F.kp T.law_draw.b .nil pass0 (pa_cons (pv 1) (pa_cons pe_int pa_nil))) pa_nil)) (blkOk_by (N := ["script", "state", "k", "lengths", "total", "length", "numbers", "lane", "others", "indexes", "inside", "same", "ranged", "rows", "name", "extra", "inputs", "mixed", "sign", "a", "due", "b", "table", "trapped", "n", "item"]) (sc := defScope s_law) (by decide +kernel)) (fun _ _ _ _ _ => (pg_name (i := 2) nd rfl (Or.inl rfl))) (fun _ _ _ _ _ => pts_nil) (fun _ _ _ _ _ => (pe_call G_law_draw (hr.mono (by omega)) rfl T.law_draw.g T.law_draw.F.kp T.law_draw.b .nil pass0 (pa_cons (pv 1) (pa_cons (pe_callB (call_lenK (K := K) rfl) (by rfl) T.len PySem.boot_len (pa_cons (pv 3) pa_nil)) pa_nil)))))) pss_nil)
  hD))))))))), ?_⟩
  refine ⟨_, rfl, p, ns, rfl, hS, h63, fun H1 st c s1 nst nc S1 => ?_⟩
  refine ⟨_, rfl, st, c, 7, rfl, S1, by decide, by decide, fun H2 m g2 m0 m1 => ?_⟩
  refine ⟨_, rfl, by omega, by omega, fun L nL => lc_it (walk_range (lo := 0) (n := m.toNat)) (fun i H3 => ∃ acc : List Int, Go st c H2 H3 ∧ H3 L = some (.lst (iv acc)) ∧ acc.length = i ∧ ∀ n ∈ acc, 0 ≤ n ∧ n ≤ 3) (drawn0 g2.2 nL) (fun _ _ _ _ => trivial) ?_ ?_⟩
  · rintro i y Hx H3 hi ⟨acc, g3, hL, ll, all⟩ ⟨rfl, rfl⟩
    exact ⟨rfl, _, rfl, st, c, 4, rfl, g3.2, by decide, by decide, fun H4 n g4 n0 n1 => tickD g2.2 nL g3 hL ll all g4 ⟨n0, by omega⟩ (by omega)⟩
  rintro H3 ⟨ls, g3, hL, ll, l3⟩
  have hl : Ls st c H3 L ls := ⟨hL, St.new g2.2 nL⟩
  have l6 : ls.length ≤ 6 := by omega
  have LS := lens_of (m := 3) (by omega) l3 l6
  refine ⟨_, rfl, L, rfl, ⟨_, hl.seq⟩, for_list (K := K) (a := L) (xs := iv ls) (fun i σ H4 => ∃ v5 : Option V, σ = [some (.ref p), some (.ref st), none, some (.ref L), some (.int (pre ls i)), v5, none, none, none, none, none, none, none, none, none, none, none, none, none, none, none, none, none, none, none, none] ∧ H4 = H3) ⟨none, rfl, rfl⟩ (fun i σ H4 _ h => by obtain ⟨_, _, rfl⟩ := h; exact hl.seq) ?_ ?_⟩
  · rintro i y σ H4 hi ⟨v5, rfl, rfl⟩
    obtain ⟨n, hn, rfl⟩ := iv_get hi
    have jl := (List.getElem?_eq_some_iff.mp hn).1
    refine ⟨_, rfl, _, rfl, _, _, rfl, rfl, some (.int n), ?_, rfl⟩
    rw [pre_succ jl, at_some hn]
    rfl
  rintro σ H4 ⟨v5, rfl, rfl⟩
  rw [iv_len, pre_full]
  refine ⟨_, rfl, _, rfl, by omega, by omega, fun N nN => lc_it (walk_range (lo := 0) (n := ls.sum.toNat)) (fun i H5 => ∃ acc : List Int, Go st c H4 H5 ∧ H5 N = some (.lst (iv acc)) ∧ acc.length = i ∧ ∀ n ∈ acc, InR n) (drawn0 g3.2 nN) (fun _ _ _ _ => trivial) ?_ ?_⟩
  · rintro i y Hx H5 hi ⟨acc, g5, hN, nl, all⟩ ⟨rfl, rfl⟩
    exact ⟨rfl, _, rfl, st, c, rfl, g5.2, fun H6 n g6 hn => tickD g3.2 nN g5 hN nl all g6 hn (by omega)⟩
  rintro H5 ⟨nums, g5, hN, nl, ni⟩
  have hn5 : Ls st c H5 N nums := ⟨hN, St.new g3.2 nN⟩
  have hl5 := hl.kp g5.1
  refine ⟨_, rfl, L, rfl, ⟨_, hl5.seq⟩, fun Aa nA => lc_it (walk_list (K := K) (a := L) (xs := iv ls)) (fun i H6 => ∃ acc : List Int, Go st c H5 H6 ∧ H6 Aa = some (.lst (iv acc)) ∧ acc.length = i ∧ ∀ n ∈ acc, InR n) (drawn0 g5.2 nA) (fun i H6 _ h => by obtain ⟨_, g, _⟩ := h; exact (hl5.kp g.1).seq) ?_ ?_⟩
  · rintro i y H6 H7 hi ⟨acc, g6, hA, al, all⟩ ⟨rfl, hy⟩
    rw [iv_len] at hi
    exact ⟨rfl, _, rfl, st, c, rfl, g6.2, fun H8 n g8 hn => tickD g5.2 nA g6 hA al all g8 hn (by omega)⟩
  rintro H6 ⟨lane, g6, hA, al, ai⟩
  rw [iv_len] at al
  have ha6 : Ls st c H6 Aa lane := ⟨hA, St.new g5.2 nA⟩
  have hl6 := hl5.kp g6.1
  have hn6 := hn5.kp g6.1
  refine ⟨_, rfl, L, rfl, ⟨_, hl6.seq⟩, fun O nO => lc_it (walk_list (K := K) (a := L) (xs := iv ls)) (fun i H7 => ∃ acc : List Int, Go st c H6 H7 ∧ H7 O = some (.lst (iv acc)) ∧ acc.length = i ∧ ∀ n ∈ acc, 0 ≤ n ∧ n ≤ 2) (drawn0 g6.2 nO) (fun i H7 _ h => by obtain ⟨_, g, _⟩ := h; exact (hl6.kp g.1).seq) ?_ ?_⟩
  · rintro i y H7 H8 hi ⟨acc, g7, hO, ol, all⟩ ⟨rfl, hy⟩
    rw [iv_len] at hi
    exact ⟨rfl, _, rfl, st, c, 3, rfl, g7.2, by decide, by decide, fun H9 n g9 n0 n1 => tickD g6.2 nO g7 hO ol all g9 ⟨n0, by omega⟩ (by omega)⟩
  rintro H7 ⟨os, g7, hO, ol, o2⟩
  rw [iv_len] at ol
  have ho7 : Ls st c H7 O os := ⟨hO, St.new g6.2 nO⟩
  have hl7 := hl6.kp g7.1
  have hn7 := hn6.kp g7.1
  have ha7 := ha6.kp g7.1
  refine ⟨(by show 0 ≤ sizeLine; decide), fun x0 nx0 => ?_⟩
  have sx := same_new nx0 (.lst [])
  have nx := St.new g7.2 nx0
  have S8 := St.put g7.2 nx (o := .lst [])
  have kx := Kp.of (st := st) (c := c) sx
  refine ⟨_, rfl, L, _, rfl, .inl (hl7.kp kx).seq, _, _, rfl, rfl, _, rfl, ?_⟩
  rw [iv_len]
  by_cases c0 : 0 < ls.length
  · refine ifT (decide_eq_true (by omega)) ?_
    refine ⟨_, rfl, st, c, 6, rfl, S8, by decide, by decide, fun H8 m8 g8 m80 m81 => ?_⟩
    have k8 := kx.trans g8.1
    have hl8 := hl7.kp k8
    refine ⟨_, rfl, by omega, by omega, fun Xx nX => lc_it (walk_range (lo := 0) (n := m8.toNat)) (fun i H9 => ∃ acc : List Int, Go st c H8 H9 ∧ H9 Xx = some (.lst (iv acc)) ∧ acc.length = i ∧ ∀ n ∈ acc, 0 ≤ n ∧ n < ls.length) (drawn0 g8.2 nX) (fun _ _ _ _ => trivial) ?_ ?_⟩
    · rintro i y Hx H9 hi ⟨acc, g9, hX, xl, all⟩ ⟨rfl, rfl⟩
      refine ⟨rfl, _, rfl, _, rfl, L, _, rfl, .inl (hl8.kp g9.1).seq, st, c, _, rfl, g9.2, by rw [iv_len]; omega, by rw [iv_len]; omega, fun HA n gA n0 n1 => tickD g8.2 nX g9 hX xl all gA ⟨n0, by rw [iv_len] at n1; exact n1⟩ (by omega)⟩
    rintro H9 ⟨ix, g9, hX, xl, xi⟩
    have k9 := k8.trans g9.1
    exact qD _ _ _ _ st c L N Aa O Xx ls nums lane os ix H9 g9.2 l6 l3 nl ni al ai ol o2 (by omega) xi (hl7.kp k9) (hn7.kp k9) (ha7.kp k9) (ho7.kp k9) ⟨hX, St.new g8.2 nX⟩
  · refine ifF (decide_eq_false (by omega)) ?_
    exact qD _ _ _ _ st c L N Aa O x0 ls nums lane os [] _ S8 l6 l3 nl ni al ai ol o2 (by simp) (by simp) (hl7.kp kx) (hn7.kp kx) (ha7.kp kx) (ho7.kp kx) ⟨upd_same, nx⟩
end
end K6

namespace K6
open PySem PySem.Spec PyProof.Rows L2
/-! ### the top -/
theorem all_mk {l : PySem.W.OpenLaw} {w : World} {K : PySem.W.Frag} {h : Heap} {mg : Str → Option Value} {fa cFlatError cTrapError f0 f1 f2 f3 f4 f5 f6 f7 f8 f9 f10 f11 f12 f13 f14 f15 f16 f17 f18 f19 f20 f21 f22 f23 f24 f25 f26 f27 f28 f29 f30 f31 f32 f33 f34 f35 f36 f37 dOPERATIONS dINSTRUCTIONS : Addr} (X : K.In h) (G : h.Ns mainGlobals mg) (hfa : mg "law" = some (.ref fa))
    {od0 an0 : Option Addr} {sl0 : Array (Option Value)} {oc0 kV0 dc0 pm0 cd0 ct0 : Value}
    {od1 an1 : Option Addr} {sl1 : Array (Option Value)} {oc1 kV1 dc1 pm1 cd1 ct1 : Value}
    {od2 an2 : Option Addr} {sl2 : Array (Option Value)} {oc2 kV2 dc2 pm2 cd2 ct2 : Value}
    {od3 an3 : Option Addr} {sl3 : Array (Option Value)} {oc3 kV3 dc3 pm3 cd3 ct3 : Value}
    {od4 an4 : Option Addr} {sl4 : Array (Option Value)} {oc4 kV4 dc4 pm4 cd4 ct4 : Value}
    {od5 an5 : Option Addr} {sl5 : Array (Option Value)} {oc5 kV5 dc5 pm5 cd5 ct5 : Value}
    {od6 an6 : Option Addr} {sl6 : Array (Option Value)} {oc6 kV6 dc6 pm6 cd6 ct6 : Value}
    {od7 an7 : Option Addr} {sl7 : Array (Option Value)} {oc7 kV7 dc7 pm7 cd7 ct7 : Value}
    {od8 an8 : Option Addr} {sl8 : Array (Option Value)} {oc8 kV8 dc8 pm8 cd8 ct8 : Value}
    {od9 an9 : Option Addr} {sl9 : Array (Option Value)} {oc9 kV9 dc9 pm9 cd9 ct9 : Value}
    {od10 an10 : Option Addr} {sl10 : Array (Option Value)} {oc10 kV10 dc10 pm10 cd10 ct10 : Value}
    {od11 an11 : Option Addr} {sl11 : Array (Option Value)} {oc11 kV11 dc11 pm11 cd11 ct11 : Value}
    {od12 an12 : Option Addr} {sl12 : Array (Option Value)} {oc12 kV12 dc12 pm12 cd12 ct12 : Value}
    {od13 an13 : Option Addr} {sl13 : Array (Option Value)} {oc13 kV13 dc13 pm13 cd13 ct13 : Value}
    {od14 an14 : Option Addr} {sl14 : Array (Option Value)} {oc14 kV14 dc14 pm14 cd14 ct14 : Value}
    {od15 an15 : Option Addr} {sl15 : Array (Option Value)} {oc15 kV15 dc15 pm15 cd15 ct15 : Value}
    {od16 an16 : Option Addr} {sl16 : Array (Option Value)} {oc16 kV16 dc16 pm16 cd16 ct16 : Value}
    {od17 an17 : Option Addr} {sl17 : Array (Option Value)} {oc17 kV17 dc17 pm17 cd17 ct17 : Value}
    {od18 an18 : Option Addr} {sl18 : Array (Option Value)} {oc18 kV18 dc18 pm18 cd18 ct18 : Value}
    {od19 an19 : Option Addr} {sl19 : Array (Option Value)} {oc19 kV19 dc19 pm19 cd19 ct19 : Value}
    {od20 an20 : Option Addr} {sl20 : Array (Option Value)} {oc20 kV20 dc20 pm20 cd20 ct20 : Value}
    {od21 an21 : Option Addr} {sl21 : Array (Option Value)} {oc21 kV21 dc21 pm21 cd21 ct21 : Value}
    {od22 an22 : Option Addr} {sl22 : Array (Option Value)} {oc22 kV22 dc22 pm22 cd22 ct22 : Value}
    {od23 an23 : Option Addr} {sl23 : Array (Option Value)} {oc23 kV23 dc23 pm23 cd23 ct23 : Value}
    {od24 an24 : Option Addr} {sl24 : Array (Option Value)} {oc24 kV24 dc24 pm24 cd24 ct24 : Value}
    {od25 an25 : Option Addr} {sl25 : Array (Option Value)} {oc25 kV25 dc25 pm25 cd25 ct25 : Value}
    {od26 an26 : Option Addr} {sl26 : Array (Option Value)} {oc26 kV26 dc26 pm26 cd26 ct26 : Value}
    {od27 an27 : Option Addr} {sl27 : Array (Option Value)} {oc27 kV27 dc27 pm27 cd27 ct27 : Value}
    {od28 an28 : Option Addr} {sl28 : Array (Option Value)} {oc28 kV28 dc28 pm28 cd28 ct28 : Value}
    {od29 an29 : Option Addr} {sl29 : Array (Option Value)} {oc29 kV29 dc29 pm29 cd29 ct29 : Value}
    {od30 an30 : Option Addr} {sl30 : Array (Option Value)} {oc30 kV30 dc30 pm30 cd30 ct30 : Value}
    {od31 an31 : Option Addr} {sl31 : Array (Option Value)} {oc31 kV31 dc31 pm31 cd31 ct31 : Value}
    {od32 an32 : Option Addr} {sl32 : Array (Option Value)} {oc32 kV32 dc32 pm32 cd32 ct32 : Value}
    {od33 an33 : Option Addr} {sl33 : Array (Option Value)} {oc33 kV33 dc33 pm33 cd33 ct33 : Value}
    {od34 an34 : Option Addr} {sl34 : Array (Option Value)} {oc34 kV34 dc34 pm34 cd34 ct34 : Value}
    {od35 an35 : Option Addr} {sl35 : Array (Option Value)} {oc35 kV35 dc35 pm35 cd35 ct35 : Value}
    {od36 an36 : Option Addr} {sl36 : Array (Option Value)} {oc36 kV36 dc36 pm36 cd36 ct36 : Value}
    {od37 an37 : Option Addr} {sl37 : Array (Option Value)} {oc37 kV37 dc37 pm37 cd37 ct37 : Value}
    {t_HALF : Tok}
    {t_SPAN : Tok}
    {t_RANGE_LIMIT : Tok}
    {esOPERATIONS : Array DictEntry} {nnOPERATIONS : Nat}
    {esINSTRUCTIONS : Array DictEntry} {nnINSTRUCTIONS : Nat}
    (g_FlatError : PySem.W.nsIn K mainGlobals "FlatError" = some (some (.ref cFlatError)))
    (g_TrapError : PySem.W.nsIn K mainGlobals "TrapError" = some (some (.ref cTrapError)))
    (x_TrapError : PySem.W.excIn K cTrapError [.type "ValueError", .type "Exception", .type "BaseException", .type "object"] "ValueError.__new__" = true)
    (xk_TrapError : PySem.W.keepIn K (.ref cTrapError) = true)
    (xb_TrapError : PySem.W.subIn K (.ref cTrapError) (.type "BaseException") = some true)
    (xt_TrapError : PySem.W.typeIn K (.ref cTrapError) = some (.type "type"))
    (xi_TrapError : PySem.W.isClsIn K cTrapError = true)
    (xs_TrapError : PySem.W.subIn K (.ref cTrapError) (.ref cTrapError) = some true)
    (a0 : PySem.W.nsIn K mainGlobals "wrapped" = some (some (.ref f0)))
    (l0 : K.lookup f0 = some ⟨oc0, od0, .func (PySem.W.fnOf "wrapped" "wrapped" (defArgs s_wrapped) (defBody s_wrapped) (defScope s_wrapped) .none kV0 dc0 pm0 an0 cd0 ct0), sl0⟩)
    (c0 : PySem.W.codeIn K cd0 "wrapped" = true)
    (k0 : PySem.W.keepIn K (.ref f0) = true)
    (a1 : PySem.W.nsIn K mainGlobals "added" = some (some (.ref f1)))
    (l1 : K.lookup f1 = some ⟨oc1, od1, .func (PySem.W.fnOf "added" "added" (defArgs s_added) (defBody s_added) (defScope s_added) .none kV1 dc1 pm1 an1 cd1 ct1), sl1⟩)
    (c1 : PySem.W.codeIn K cd1 "added" = true)
    (k1 : PySem.W.keepIn K (.ref f1) = true)
    (a2 : PySem.W.nsIn K mainGlobals "subtracted" = some (some (.ref f2)))
    (l2 : K.lookup f2 = some ⟨oc2, od2, .func (PySem.W.fnOf "subtracted" "subtracted" (defArgs s_subtracted) (defBody s_subtracted) (defScope s_subtracted) .none kV2 dc2 pm2 an2 cd2 ct2), sl2⟩)
    (c2 : PySem.W.codeIn K cd2 "subtracted" = true)
    (k2 : PySem.W.keepIn K (.ref f2) = true)
    (a3 : PySem.W.nsIn K mainGlobals "multiplied" = some (some (.ref f3)))
    (l3 : K.lookup f3 = some ⟨oc3, od3, .func (PySem.W.fnOf "multiplied" "multiplied" (defArgs s_multiplied) (defBody s_multiplied) (defScope s_multiplied) .none kV3 dc3 pm3 an3 cd3 ct3), sl3⟩)
    (c3 : PySem.W.codeIn K cd3 "multiplied" = true)
    (k3 : PySem.W.keepIn K (.ref f3) = true)
    (a4 : PySem.W.nsIn K mainGlobals "quotient" = some (some (.ref f4)))
    (l4 : K.lookup f4 = some ⟨oc4, od4, .func (PySem.W.fnOf "quotient" "quotient" (defArgs s_quotient) (defBody s_quotient) (defScope s_quotient) .none kV4 dc4 pm4 an4 cd4 ct4), sl4⟩)
    (c4 : PySem.W.codeIn K cd4 "quotient" = true)
    (k4 : PySem.W.keepIn K (.ref f4) = true)
    (a5 : PySem.W.nsIn K mainGlobals "remainder" = some (some (.ref f5)))
    (l5 : K.lookup f5 = some ⟨oc5, od5, .func (PySem.W.fnOf "remainder" "remainder" (defArgs s_remainder) (defBody s_remainder) (defScope s_remainder) .none kV5 dc5 pm5 an5 cd5 ct5), sl5⟩)
    (c5 : PySem.W.codeIn K cd5 "remainder" = true)
    (k5 : PySem.W.keepIn K (.ref f5) = true)
    (a6 : PySem.W.nsIn K mainGlobals "smaller" = some (some (.ref f6)))
    (l6 : K.lookup f6 = some ⟨oc6, od6, .func (PySem.W.fnOf "smaller" "smaller" (defArgs s_smaller) (defBody s_smaller) (defScope s_smaller) .none kV6 dc6 pm6 an6 cd6 ct6), sl6⟩)
    (c6 : PySem.W.codeIn K cd6 "smaller" = true)
    (k6 : PySem.W.keepIn K (.ref f6) = true)
    (a7 : PySem.W.nsIn K mainGlobals "larger" = some (some (.ref f7)))
    (l7 : K.lookup f7 = some ⟨oc7, od7, .func (PySem.W.fnOf "larger" "larger" (defArgs s_larger) (defBody s_larger) (defScope s_larger) .none kV7 dc7 pm7 an7 cd7 ct7), sl7⟩)
    (c7 : PySem.W.codeIn K cd7 "larger" = true)
    (k7 : PySem.W.keepIn K (.ref f7) = true)
    (a8 : PySem.W.nsIn K mainGlobals "is_less" = some (some (.ref f8)))
    (l8 : K.lookup f8 = some ⟨oc8, od8, .func (PySem.W.fnOf "is_less" "is_less" (defArgs s_is_less) (defBody s_is_less) (defScope s_is_less) .none kV8 dc8 pm8 an8 cd8 ct8), sl8⟩)
    (c8 : PySem.W.codeIn K cd8 "is_less" = true)
    (k8 : PySem.W.keepIn K (.ref f8) = true)
    (a9 : PySem.W.nsIn K mainGlobals "is_equal" = some (some (.ref f9)))
    (l9 : K.lookup f9 = some ⟨oc9, od9, .func (PySem.W.fnOf "is_equal" "is_equal" (defArgs s_is_equal) (defBody s_is_equal) (defScope s_is_equal) .none kV9 dc9 pm9 an9 cd9 ct9), sl9⟩)
    (c9 : PySem.W.codeIn K cd9 "is_equal" = true)
    (k9 : PySem.W.keepIn K (.ref f9) = true)
    (a10 : PySem.W.nsIn K mainGlobals "calculate" = some (some (.ref f10)))
    (l10 : K.lookup f10 = some ⟨oc10, od10, .func (PySem.W.fnOf "calculate" "calculate" (defArgs s_calculate) (defBody s_calculate) (defScope s_calculate) .none kV10 dc10 pm10 an10 cd10 ct10), sl10⟩)
    (c10 : PySem.W.codeIn K cd10 "calculate" = true)
    (k10 : PySem.W.keepIn K (.ref f10) = true)
    (a11 : PySem.W.nsIn K mainGlobals "execute" = some (some (.ref f11)))
    (l11 : K.lookup f11 = some ⟨oc11, od11, .func (PySem.W.fnOf "execute" "execute" (defArgs s_execute) (defBody s_execute) (defScope s_execute) .none kV11 dc11 pm11 an11 cd11 ct11), sl11⟩)
    (c11 : PySem.W.codeIn K cd11 "execute" = true)
    (k11 : PySem.W.keepIn K (.ref f11) = true)
    (a12 : PySem.W.nsIn K mainGlobals "starts_of" = some (some (.ref f12)))
    (l12 : K.lookup f12 = some ⟨oc12, od12, .func (PySem.W.fnOf "starts_of" "starts_of" (defArgs s_starts_of) (defBody s_starts_of) (defScope s_starts_of) .none kV12 dc12 pm12 an12 cd12 ct12), sl12⟩)
    (c12 : PySem.W.codeIn K cd12 "starts_of" = true)
    (k12 : PySem.W.keepIn K (.ref f12) = true)
    (a13 : PySem.W.nsIn K mainGlobals "fill" = some (some (.ref f13)))
    (l13 : K.lookup f13 = some ⟨oc13, od13, .func (PySem.W.fnOf "fill" "fill" (defArgs s_fill) (defBody s_fill) (defScope s_fill) .none kV13 dc13 pm13 an13 cd13 ct13), sl13⟩)
    (c13 : PySem.W.codeIn K cd13 "fill" = true)
    (k13 : PySem.W.keepIn K (.ref f13) = true)
    (a14 : PySem.W.nsIn K mainGlobals "calc" = some (some (.ref f14)))
    (l14 : K.lookup f14 = some ⟨oc14, od14, .func (PySem.W.fnOf "calc" "calc" (defArgs s_calc) (defBody s_calc) (defScope s_calc) .none kV14 dc14 pm14 an14 cd14 ct14), sl14⟩)
    (c14 : PySem.W.codeIn K cd14 "calc" = true)
    (k14 : PySem.W.keepIn K (.ref f14) = true)
    (a15 : PySem.W.nsIn K mainGlobals "take" = some (some (.ref f15)))
    (l15 : K.lookup f15 = some ⟨oc15, od15, .func (PySem.W.fnOf "take" "take" (defArgs s_take) (defBody s_take) (defScope s_take) .none kV15 dc15 pm15 an15 cd15 ct15), sl15⟩)
    (c15 : PySem.W.codeIn K cd15 "take" = true)
    (k15 : PySem.W.keepIn K (.ref f15) = true)
    (a16 : PySem.W.nsIn K mainGlobals "pick" = some (some (.ref f16)))
    (l16 : K.lookup f16 = some ⟨oc16, od16, .func (PySem.W.fnOf "pick" "pick" (defArgs s_pick) (defBody s_pick) (defScope s_pick) .none kV16 dc16 pm16 an16 cd16 ct16), sl16⟩)
    (c16 : PySem.W.codeIn K cd16 "pick" = true)
    (k16 : PySem.W.keepIn K (.ref f16) = true)
    (a17 : PySem.W.nsIn K mainGlobals "repeat" = some (some (.ref f17)))
    (l17 : K.lookup f17 = some ⟨oc17, od17, .func (PySem.W.fnOf "repeat" "repeat" (defArgs s_repeat) (defBody s_repeat) (defScope s_repeat) .none kV17 dc17 pm17 an17 cd17 ct17), sl17⟩)
    (c17 : PySem.W.codeIn K cd17 "repeat" = true)
    (k17 : PySem.W.keepIn K (.ref f17) = true)
    (a18 : PySem.W.nsIn K mainGlobals "count" = some (some (.ref f18)))
    (l18 : K.lookup f18 = some ⟨oc18, od18, .func (PySem.W.fnOf "count" "count" (defArgs s_count) (defBody s_count) (defScope s_count) .none kV18 dc18 pm18 an18 cd18 ct18), sl18⟩)
    (c18 : PySem.W.codeIn K cd18 "count" = true)
    (k18 : PySem.W.keepIn K (.ref f18) = true)
    (a19 : PySem.W.nsIn K mainGlobals "where" = some (some (.ref f19)))
    (l19 : K.lookup f19 = some ⟨oc19, od19, .func (PySem.W.fnOf "where" "where" (defArgs s_where) (defBody s_where) (defScope s_where) .none kV19 dc19 pm19 an19 cd19 ct19), sl19⟩)
    (c19 : PySem.W.codeIn K cd19 "where" = true)
    (k19 : PySem.W.keepIn K (.ref f19) = true)
    (a20 : PySem.W.nsIn K mainGlobals "weave" = some (some (.ref f20)))
    (l20 : K.lookup f20 = some ⟨oc20, od20, .func (PySem.W.fnOf "weave" "weave" (defArgs s_weave) (defBody s_weave) (defScope s_weave) .none kV20 dc20 pm20 an20 cd20 ct20), sl20⟩)
    (c20 : PySem.W.codeIn K cd20 "weave" = true)
    (k20 : PySem.W.keepIn K (.ref f20) = true)
    (a21 : PySem.W.nsIn K mainGlobals "join" = some (some (.ref f21)))
    (l21 : K.lookup f21 = some ⟨oc21, od21, .func (PySem.W.fnOf "join" "join" (defArgs s_join) (defBody s_join) (defScope s_join) .none kV21 dc21 pm21 an21 cd21 ct21), sl21⟩)
    (c21 : PySem.W.codeIn K cd21 "join" = true)
    (k21 : PySem.W.keepIn K (.ref f21) = true)
    (a22 : PySem.W.nsIn K mainGlobals "sums" = some (some (.ref f22)))
    (l22 : K.lookup f22 = some ⟨oc22, od22, .func (PySem.W.fnOf "sums" "sums" (defArgs s_sums) (defBody s_sums) (defScope s_sums) .none kV22 dc22 pm22 an22 cd22 ct22), sl22⟩)
    (c22 : PySem.W.codeIn K cd22 "sums" = true)
    (k22 : PySem.W.keepIn K (.ref f22) = true)
    (a23 : PySem.W.nsIn K mainGlobals "zip_segments" = some (some (.ref f23)))
    (l23 : K.lookup f23 = some ⟨oc23, od23, .func (PySem.W.fnOf "zip_segments" "zip_segments" (defArgs s_zip_segments) (defBody s_zip_segments) (defScope s_zip_segments) .none kV23 dc23 pm23 an23 cd23 ct23), sl23⟩)
    (c23 : PySem.W.codeIn K cd23 "zip_segments" = true)
    (k23 : PySem.W.keepIn K (.ref f23) = true)
    (a24 : PySem.W.nsIn K mainGlobals "place" = some (some (.ref f24)))
    (l24 : K.lookup f24 = some ⟨oc24, od24, .func (PySem.W.fnOf "place" "place" (defArgs s_place) (defBody s_place) (defScope s_place) .none kV24 dc24 pm24 an24 cd24 ct24), sl24⟩)
    (c24 : PySem.W.codeIn K cd24 "place" = true)
    (k24 : PySem.W.keepIn K (.ref f24) = true)
    (a25 : PySem.W.nsIn K mainGlobals "need_range" = some (some (.ref f25)))
    (l25 : K.lookup f25 = some ⟨oc25, od25, .func (PySem.W.fnOf "need_range" "need_range" (defArgs s_need_range) (defBody s_need_range) (defScope s_need_range) .none kV25 dc25 pm25 an25 cd25 ct25), sl25⟩)
    (c25 : PySem.W.codeIn K cd25 "need_range" = true)
    (k25 : PySem.W.keepIn K (.ref f25) = true)
    (a26 : PySem.W.nsIn K mainGlobals "need_same" = some (some (.ref f26)))
    (l26 : K.lookup f26 = some ⟨oc26, od26, .func (PySem.W.fnOf "need_same" "need_same" (defArgs s_need_same) (defBody s_need_same) (defScope s_need_same) .none kV26 dc26 pm26 an26 cd26 ct26), sl26⟩)
    (c26 : PySem.W.codeIn K cd26 "need_same" = true)
    (k26 : PySem.W.keepIn K (.ref f26) = true)
    (a27 : PySem.W.nsIn K mainGlobals "flags" = some (some (.ref f27)))
    (l27 : K.lookup f27 = some ⟨oc27, od27, .func (PySem.W.fnOf "flags" "flags" (defArgs s_flags) (defBody s_flags) (defScope s_flags) .none kV27 dc27 pm27 an27 cd27 ct27), sl27⟩)
    (c27 : PySem.W.codeIn K cd27 "flags" = true)
    (k27 : PySem.W.keepIn K (.ref f27) = true)
    (a28 : PySem.W.nsIn K mainGlobals "_law_state" = some (some (.ref f28)))
    (l28 : K.lookup f28 = some ⟨oc28, od28, .func (PySem.W.fnOf "_law_state" "_law_state" (defArgs s_law_state) (defBody s_law_state) (defScope s_law_state) .none kV28 dc28 pm28 an28 cd28 ct28), sl28⟩)
    (c28 : PySem.W.codeIn K cd28 "_law_state" = true)
    (k28 : PySem.W.keepIn K (.ref f28) = true)
    (a29 : PySem.W.nsIn K mainGlobals "_law_draw" = some (some (.ref f29)))
    (l29 : K.lookup f29 = some ⟨oc29, od29, .func (PySem.W.fnOf "_law_draw" "_law_draw" (defArgs s_law_draw) (defBody s_law_draw) (defScope s_law_draw) .none kV29 dc29 pm29 an29 cd29 ct29), sl29⟩)
    (c29 : PySem.W.codeIn K cd29 "_law_draw" = true)
    (k29 : PySem.W.keepIn K (.ref f29) = true)
    (a30 : PySem.W.nsIn K mainGlobals "_law_pick" = some (some (.ref f30)))
    (l30 : K.lookup f30 = some ⟨oc30, od30, .func (PySem.W.fnOf "_law_pick" "_law_pick" (defArgs s_law_pick) (defBody s_law_pick) (defScope s_law_pick) .none kV30 dc30 pm30 an30 cd30 ct30), sl30⟩)
    (c30 : PySem.W.codeIn K cd30 "_law_pick" = true)
    (k30 : PySem.W.keepIn K (.ref f30) = true)
    (a31 : PySem.W.nsIn K mainGlobals "_law_number" = some (some (.ref f31)))
    (l31 : K.lookup f31 = some ⟨oc31, od31, .func (PySem.W.fnOf "_law_number" "_law_number" (defArgs s_law_number) (defBody s_law_number) (defScope s_law_number) .none kV31 dc31 pm31 an31 cd31 ct31), sl31⟩)
    (c31 : PySem.W.codeIn K cd31 "_law_number" = true)
    (k31 : PySem.W.keepIn K (.ref f31) = true)
    (a32 : PySem.W.nsIn K mainGlobals "_law_wrap" = some (some (.ref f32)))
    (l32 : K.lookup f32 = some ⟨oc32, od32, .func (PySem.W.fnOf "_law_wrap" "_law_wrap" (defArgs s_law_wrap) (defBody s_law_wrap) (defScope s_law_wrap) .none kV32 dc32 pm32 an32 cd32 ct32), sl32⟩)
    (c32 : PySem.W.codeIn K cd32 "_law_wrap" = true)
    (k32 : PySem.W.keepIn K (.ref f32) = true)
    (a33 : PySem.W.nsIn K mainGlobals "_law_told" = some (some (.ref f33)))
    (l33 : K.lookup f33 = some ⟨oc33, od33, .func (PySem.W.fnOf "_law_told" "_law_told" (defArgs s_law_told) (defBody s_law_told) (defScope s_law_told) .none kV33 dc33 pm33 an33 cd33 ct33), sl33⟩)
    (c33 : PySem.W.codeIn K cd33 "_law_told" = true)
    (k33 : PySem.W.keepIn K (.ref f33) = true)
    (a34 : PySem.W.nsIn K mainGlobals "_law_segments" = some (some (.ref f34)))
    (l34 : K.lookup f34 = some ⟨oc34, od34, .func (PySem.W.fnOf "_law_segments" "_law_segments" (defArgs s_law_segments) (defBody s_law_segments) (defScope s_law_segments) .none kV34 dc34 pm34 an34 cd34 ct34), sl34⟩)
    (c34 : PySem.W.codeIn K cd34 "_law_segments" = true)
    (k34 : PySem.W.keepIn K (.ref f34) = true)
    (a35 : PySem.W.nsIn K mainGlobals "_law_due" = some (some (.ref f35)))
    (l35 : K.lookup f35 = some ⟨oc35, od35, .func (PySem.W.fnOf "_law_due" "_law_due" (defArgs s_law_due) (defBody s_law_due) (defScope s_law_due) .none kV35 dc35 pm35 an35 cd35 ct35), sl35⟩)
    (c35 : PySem.W.codeIn K cd35 "_law_due" = true)
    (k35 : PySem.W.keepIn K (.ref f35) = true)
    (a36 : PySem.W.nsIn K mainGlobals "_law_due_segments" = some (some (.ref f36)))
    (l36 : K.lookup f36 = some ⟨oc36, od36, .func (PySem.W.fnOf "_law_due_segments" "_law_due_segments" (defArgs s_law_due_segments) (defBody s_law_due_segments) (defScope s_law_due_segments) .none kV36 dc36 pm36 an36 cd36 ct36), sl36⟩)
    (c36 : PySem.W.codeIn K cd36 "_law_due_segments" = true)
    (k36 : PySem.W.keepIn K (.ref f36) = true)
    (a37 : PySem.W.nsIn K mainGlobals "law" = some (some (.ref f37)))
    (l37 : K.lookup f37 = some ⟨oc37, od37, .func (PySem.W.fnOf "law" "law" (defArgs s_law) (defBody s_law) (defScope s_law) .none kV37 dc37 pm37 an37 cd37 ct37), sl37⟩)
    (c37 : PySem.W.codeIn K cd37 "law" = true)
    (k37 : PySem.W.keepIn K (.ref f37) = true)
    (b_len : PySem.W.nsIn K mainGlobals "len" = some none)
    (b_abs : PySem.W.nsIn K mainGlobals "abs" = some none)
    (b_int : PySem.W.nsIn K mainGlobals "int" = some none)
    (b_min : PySem.W.nsIn K mainGlobals "min" = some none)
    (b_max : PySem.W.nsIn K mainGlobals "max" = some none)
    (b_isinstance : PySem.W.nsIn K mainGlobals "isinstance" = some none)
    (b_range : PySem.W.nsIn K mainGlobals "range" = some none)
    (b_zip : PySem.W.nsIn K mainGlobals "zip" = some none)
    (b_enumerate : PySem.W.nsIn K mainGlobals "enumerate" = some none)
    (b_list : PySem.W.nsIn K mainGlobals "list" = some none)
    (b_sum : PySem.W.nsIn K mainGlobals "sum" = some none)
    (b_repr : PySem.W.nsIn K mainGlobals "repr" = some none)
    (h_HALF : PySem.W.nsIn K mainGlobals "HALF" = some (some (.int 2147483648 t_HALF)))
    (h_SPAN : PySem.W.nsIn K mainGlobals "SPAN" = some (some (.int 4294967296 t_SPAN)))
    (h_RANGE_LIMIT : PySem.W.nsIn K mainGlobals "RANGE_LIMIT" = some (some (.int 1000 t_RANGE_LIMIT)))
    (g_OPERATIONS : PySem.W.nsIn K mainGlobals "OPERATIONS" = some (some (.ref dOPERATIONS)))
    (dl_OPERATIONS : K.lookup dOPERATIONS = some ⟨.type "dict", none, .dict esOPERATIONS nnOPERATIONS, #[]⟩)
    (dk_OPERATIONS : PySem.W.KeysLit w.params esOPERATIONS.toList)
    (d0_OPERATIONS : PySem.W.nsIn K dOPERATIONS "+" = some (some (.ref f1)))
    (d1_OPERATIONS : PySem.W.nsIn K dOPERATIONS "-" = some (some (.ref f2)))
    (d2_OPERATIONS : PySem.W.nsIn K dOPERATIONS "*" = some (some (.ref f3)))
    (d3_OPERATIONS : PySem.W.nsIn K dOPERATIONS "/" = some (some (.ref f4)))
    (d4_OPERATIONS : PySem.W.nsIn K dOPERATIONS "mod" = some (some (.ref f5)))
    (d5_OPERATIONS : PySem.W.nsIn K dOPERATIONS "min" = some (some (.ref f6)))
    (d6_OPERATIONS : PySem.W.nsIn K dOPERATIONS "max" = some (some (.ref f7)))
    (d7_OPERATIONS : PySem.W.nsIn K dOPERATIONS "<" = some (some (.ref f8)))
    (d8_OPERATIONS : PySem.W.nsIn K dOPERATIONS "=" = some (some (.ref f9)))
    (g_INSTRUCTIONS : PySem.W.nsIn K mainGlobals "INSTRUCTIONS" = some (some (.ref dINSTRUCTIONS)))
    (dl_INSTRUCTIONS : K.lookup dINSTRUCTIONS = some ⟨.type "dict", none, .dict esINSTRUCTIONS nnINSTRUCTIONS, #[]⟩)
    (dk_INSTRUCTIONS : PySem.W.KeysLit w.params esINSTRUCTIONS.toList)
    (d0_INSTRUCTIONS : PySem.W.nsIn K dINSTRUCTIONS "fill" = some (some (.ref f13)))
    (d1_INSTRUCTIONS : PySem.W.nsIn K dINSTRUCTIONS "calc" = some (some (.ref f14)))
    (d2_INSTRUCTIONS : PySem.W.nsIn K dINSTRUCTIONS "take" = some (some (.ref f15)))
    (d3_INSTRUCTIONS : PySem.W.nsIn K dINSTRUCTIONS "pick" = some (some (.ref f16)))
    (d4_INSTRUCTIONS : PySem.W.nsIn K dINSTRUCTIONS "repeat" = some (some (.ref f17)))
    (d5_INSTRUCTIONS : PySem.W.nsIn K dINSTRUCTIONS "count" = some (some (.ref f18)))
    (d6_INSTRUCTIONS : PySem.W.nsIn K dINSTRUCTIONS "where" = some (some (.ref f19)))
    (d7_INSTRUCTIONS : PySem.W.nsIn K dINSTRUCTIONS "weave" = some (some (.ref f20)))
    (d8_INSTRUCTIONS : PySem.W.nsIn K dINSTRUCTIONS "join" = some (some (.ref f21)))
    (d9_INSTRUCTIONS : PySem.W.nsIn K dINSTRUCTIONS "sums" = some (some (.ref f22)))
    (d10_INSTRUCTIONS : PySem.W.nsIn K dINSTRUCTIONS "zip" = some (some (.ref f23)))
    (d11_INSTRUCTIONS : PySem.W.nsIn K dINSTRUCTIONS "place" = some (some (.ref f24)))
    (d12_INSTRUCTIONS : PySem.W.nsIn K dINSTRUCTIONS "range" = some (some (.ref f25)))
    (d13_INSTRUCTIONS : PySem.W.nsIn K dINSTRUCTIONS "same" = some (some (.ref f26)))
    (d14_INSTRUCTIONS : PySem.W.nsIn K dINSTRUCTIONS "flags" = some (some (.ref f27)))
    : ∃ fd : FuncData, (∀ (s : Shared) (v : Value), BindsTo s fd ⟨[v], []⟩ [("script", v)]) ∧ ∀ base : Heap, K.In base → base.Ns mainGlobals mg → GX.FnG l.prog w K mg base CX0 6 fa fd ["script"] (spLaw K) := by
  have e := hfa.symm.trans (PySem.W.mg_of X G a37)
  cases e
  have F0 := fun_mk (st := s_wrapped) l0 c0 k0
  have B0 := F0.binds (ps := ["n"]) fun _ _ _ _ _ _ us hl => match us, hl with | [_], _ => rfl
  have F1 := fun_mk (st := s_added) l1 c1 k1
  have B1 := F1.binds (ps := ["a", "b"]) fun _ _ _ _ _ _ us hl => match us, hl with | [_, _], _ => rfl
  have F2 := fun_mk (st := s_subtracted) l2 c2 k2
  have B2 := F2.binds (ps := ["a", "b"]) fun _ _ _ _ _ _ us hl => match us, hl with | [_, _], _ => rfl
  have F3 := fun_mk (st := s_multiplied) l3 c3 k3
  have B3 := F3.binds (ps := ["a", "b"]) fun _ _ _ _ _ _ us hl => match us, hl with | [_, _], _ => rfl
  have F4 := fun_mk (st := s_quotient) l4 c4 k4
  have B4 := F4.binds (ps := ["a", "b"]) fun _ _ _ _ _ _ us hl => match us, hl with | [_, _], _ => rfl
  have F5 := fun_mk (st := s_remainder) l5 c5 k5
  have B5 := F5.binds (ps := ["a", "b"]) fun _ _ _ _ _ _ us hl => match us, hl with | [_, _], _ => rfl
  have F6 := fun_mk (st := s_smaller) l6 c6 k6
  have B6 := F6.binds (ps := ["a", "b"]) fun _ _ _ _ _ _ us hl => match us, hl with | [_, _], _ => rfl
  have F7 := fun_mk (st := s_larger) l7 c7 k7
  have B7 := F7.binds (ps := ["a", "b"]) fun _ _ _ _ _ _ us hl => match us, hl with | [_, _], _ => rfl
  have F8 := fun_mk (st := s_is_less) l8 c8 k8
  have B8 := F8.binds (ps := ["a", "b"]) fun _ _ _ _ _ _ us hl => match us, hl with | [_, _], _ => rfl
  have F9 := fun_mk (st := s_is_equal) l9 c9 k9
  have B9 := F9.binds (ps := ["a", "b"]) fun _ _ _ _ _ _ us hl => match us, hl with | [_, _], _ => rfl
  have F10 := fun_mk (st := s_calculate) l10 c10 k10
  have B10 := F10.binds (ps := ["sign", "a", "b"]) fun _ _ _ _ _ _ us hl => match us, hl with | [_, _, _], _ => rfl
  have F11 := fun_mk (st := s_execute) l11 c11 k11
  have B11 := F11.binds (ps := ["name", "extra", "inputs"]) fun _ _ _ _ _ _ us hl => match us, hl with | [_, _, _], _ => rfl
  have F12 := fun_mk (st := s_starts_of) l12 c12 k12
  have B12 := F12.binds (ps := ["lengths"]) fun _ _ _ _ _ _ us hl => match us, hl with | [_], _ => rfl
  have F13 := fun_mk (st := s_fill) l13 c13 k13
  have B13 := F13.binds (ps := ["extra", "inputs"]) fun _ _ _ _ _ _ us hl => match us, hl with | [_, _], _ => rfl
  have F14 := fun_mk (st := s_calc) l14 c14 k14
  have B14 := F14.binds (ps := ["extra", "inputs"]) fun _ _ _ _ _ _ us hl => match us, hl with | [_, _], _ => rfl
  have F15 := fun_mk (st := s_take) l15 c15 k15
  have B15 := F15.binds (ps := ["_", "inputs"]) fun _ _ _ _ _ _ us hl => match us, hl with | [_, _], _ => rfl
  have F16 := fun_mk (st := s_pick) l16 c16 k16
  have B16 := F16.binds (ps := ["_", "inputs"]) fun _ _ _ _ _ _ us hl => match us, hl with | [_, _], _ => rfl
  have F17 := fun_mk (st := s_repeat) l17 c17 k17
  have B17 := F17.binds (ps := ["_", "inputs"]) fun _ _ _ _ _ _ us hl => match us, hl with | [_, _], _ => rfl
  have F18 := fun_mk (st := s_count) l18 c18 k18
  have B18 := F18.binds (ps := ["_", "inputs"]) fun _ _ _ _ _ _ us hl => match us, hl with | [_, _], _ => rfl
  have F19 := fun_mk (st := s_where) l19 c19 k19
  have B19 := F19.binds (ps := ["extra", "inputs"]) fun _ _ _ _ _ _ us hl => match us, hl with | [_, _], _ => rfl
  have F20 := fun_mk (st := s_weave) l20 c20 k20
  have B20 := F20.binds (ps := ["_", "inputs"]) fun _ _ _ _ _ _ us hl => match us, hl with | [_, _], _ => rfl
  have F21 := fun_mk (st := s_join) l21 c21 k21
  have B21 := F21.binds (ps := ["_", "inputs"]) fun _ _ _ _ _ _ us hl => match us, hl with | [_, _], _ => rfl
  have F22 := fun_mk (st := s_sums) l22 c22 k22
  have B22 := F22.binds (ps := ["_", "inputs"]) fun _ _ _ _ _ _ us hl => match us, hl with | [_, _], _ => rfl
  have F23 := fun_mk (st := s_zip_segments) l23 c23 k23
  have B23 := F23.binds (ps := ["_", "inputs"]) fun _ _ _ _ _ _ us hl => match us, hl with | [_, _], _ => rfl
  have F24 := fun_mk (st := s_place) l24 c24 k24
  have B24 := F24.binds (ps := ["_", "inputs"]) fun _ _ _ _ _ _ us hl => match us, hl with | [_, _], _ => rfl
  have F25 := fun_mk (st := s_need_range) l25 c25 k25
  have B25 := F25.binds (ps := ["_", "inputs"]) fun _ _ _ _ _ _ us hl => match us, hl with | [_, _], _ => rfl
  have F26 := fun_mk (st := s_need_same) l26 c26 k26
  have B26 := F26.binds (ps := ["_", "inputs"]) fun _ _ _ _ _ _ us hl => match us, hl with | [_, _], _ => rfl
  have F27 := fun_mk (st := s_flags) l27 c27 k27
  have B27 := F27.binds (ps := ["_", "inputs"]) fun _ _ _ _ _ _ us hl => match us, hl with | [_, _], _ => rfl
  have F28 := fun_mk (st := s_law_state) l28 c28 k28
  have B28 := F28.binds (ps := ["script"]) fun _ _ _ _ _ _ us hl => match us, hl with | [_], _ => rfl
  have F29 := fun_mk (st := s_law_draw) l29 c29 k29
  have B29 := F29.binds (ps := ["state", "many"]) fun _ _ _ _ _ _ us hl => match us, hl with | [_, _], _ => rfl
  have F30 := fun_mk (st := s_law_pick) l30 c30 k30
  have B30 := F30.binds (ps := ["state", "row"]) fun _ _ _ _ _ _ us hl => match us, hl with | [_, _], _ => rfl
  have F31 := fun_mk (st := s_law_number) l31 c31 k31
  have B31 := F31.binds (ps := ["state"]) fun _ _ _ _ _ _ us hl => match us, hl with | [_], _ => rfl
  have F32 := fun_mk (st := s_law_wrap) l32 c32 k32
  have B32 := F32.binds (ps := ["n"]) fun _ _ _ _ _ _ us hl => match us, hl with | [_], _ => rfl
  have F33 := fun_mk (st := s_law_told) l33 c33 k33
  have B33 := F33.binds (ps := ["name", "extra", "inputs"]) fun _ _ _ _ _ _ us hl => match us, hl with | [_, _, _], _ => rfl
  have F34 := fun_mk (st := s_law_segments) l34 c34 k34
  have B34 := F34.binds (ps := ["lengths", "row"]) fun _ _ _ _ _ _ us hl => match us, hl with | [_, _], _ => rfl
  have F35 := fun_mk (st := s_law_due) l35 c35 k35
  have B35 := F35.binds (ps := ["name", "extra", "inputs"]) fun _ _ _ _ _ _ us hl => match us, hl with | [_, _, _], _ => rfl
  have F36 := fun_mk (st := s_law_due_segments) l36 c36 k36
  have B36 := F36.binds (ps := ["name", "lengths", "inputs"]) fun _ _ _ _ _ _ us hl => match us, hl with | [_, _, _], _ => rfl
  have F37 := fun_mk (st := s_law) l37 c37 k37
  have B37 := F37.binds (ps := ["script"]) fun _ _ _ _ _ _ us hl => match us, hl with | [_], _ => rfl
  have T : Txt w K mg ⟨(f0, _), (f1, _), (f2, _), (f3, _), (f4, _), (f5, _), (f6, _), (f7, _), (f8, _), (f9, _), (f10, _), (f11, _), (f12, _), (f13, _), (f14, _), (f15, _), (f16, _), (f17, _), (f18, _), (f19, _), (f20, _), (f21, _), (f22, _), (f23, _), (f24, _), (f25, _), (f26, _), (f27, _), (f28, _), (f29, _), (f30, _), (f31, _), (f32, _), (f33, _), (f34, _), (f35, _), (f36, _), (_, _), cFlatError, cTrapError, dOPERATIONS, dINSTRUCTIONS⟩ :=
    { wrapped := ⟨F0, PySem.W.mg_of X G a0, B0⟩, added := ⟨F1, PySem.W.mg_of X G a1, B1⟩, subtracted := ⟨F2, PySem.W.mg_of X G a2, B2⟩, multiplied := ⟨F3, PySem.W.mg_of X G a3, B3⟩, quotient := ⟨F4, PySem.W.mg_of X G a4, B4⟩, remainder := ⟨F5, PySem.W.mg_of X G a5, B5⟩, smaller := ⟨F6, PySem.W.mg_of X G a6, B6⟩, larger := ⟨F7, PySem.W.mg_of X G a7, B7⟩, is_less := ⟨F8, PySem.W.mg_of X G a8, B8⟩, is_equal := ⟨F9, PySem.W.mg_of X G a9, B9⟩, calculate := ⟨F10, PySem.W.mg_of X G a10, B10⟩, execute := ⟨F11, PySem.W.mg_of X G a11, B11⟩, starts_of := ⟨F12, PySem.W.mg_of X G a12, B12⟩, fill := ⟨F13, PySem.W.mg_of X G a13, B13⟩, calc_ := ⟨F14, PySem.W.mg_of X G a14, B14⟩, take_ := ⟨F15, PySem.W.mg_of X G a15, B15⟩, pick := ⟨F16, PySem.W.mg_of X G a16, B16⟩, repeat_ := ⟨F17, PySem.W.mg_of X G a17, B17⟩, count_ := ⟨F18, PySem.W.mg_of X G a18, B18⟩, where_ := ⟨F19, PySem.W.mg_of X G a19, B19⟩, weave := ⟨F20, PySem.W.mg_of X G a20, B20⟩, join_ := ⟨F21, PySem.W.mg_of X G a21, B21⟩, sums := ⟨F22, PySem.W.mg_of X G a22, B22⟩, zip_segments := ⟨F23, PySem.W.mg_of X G a23, B23⟩, place := ⟨F24, PySem.W.mg_of X G a24, B24⟩, need_range := ⟨F25, PySem.W.mg_of X G a25, B25⟩, need_same := ⟨F26, PySem.W.mg_of X G a26, B26⟩, flags := ⟨F27, PySem.W.mg_of X G a27, B27⟩, law_state := ⟨F28, PySem.W.mg_of X G a28, B28⟩, law_draw := ⟨F29, PySem.W.mg_of X G a29, B29⟩, law_pick := ⟨F30, PySem.W.mg_of X G a30, B30⟩, law_number := ⟨F31, PySem.W.mg_of X G a31, B31⟩, law_wrap := ⟨F32, PySem.W.mg_of X G a32, B32⟩, law_told := ⟨F33, PySem.W.mg_of X G a33, B33⟩, law_segments := ⟨F34, PySem.W.mg_of X G a34, B34⟩, law_due := ⟨F35, PySem.W.mg_of X G a35, B35⟩, law_due_segments := ⟨F36, PySem.W.mg_of X G a36, B36⟩, law := ⟨F37, PySem.W.mg_of X G a37, B37⟩,
      len := PySem.W.mg_none_of X G b_len, abs := PySem.W.mg_none_of X G b_abs, int := PySem.W.mg_none_of X G b_int, min := PySem.W.mg_none_of X G b_min, max := PySem.W.mg_none_of X G b_max, isinstance := PySem.W.mg_none_of X G b_isinstance, range := PySem.W.mg_none_of X G b_range, zip := PySem.W.mg_none_of X G b_zip, enumerate := PySem.W.mg_none_of X G b_enumerate, list := PySem.W.mg_none_of X G b_list, sum := PySem.W.mg_none_of X G b_sum, repr := PySem.W.mg_none_of X G b_repr,
      gFlatError := PySem.W.mg_of X G g_FlatError, gTrapError := PySem.W.mg_of X G g_TrapError, xT := x_TrapError, kT := xk_TrapError, bT := xb_TrapError, tT := xt_TrapError, iT := xi_TrapError, sT := xs_TrapError,
      half := ⟨_, PySem.W.mg_of X G h_HALF, _, rfl⟩, span := ⟨_, PySem.W.mg_of X G h_SPAN, _, rfl⟩, limit := ⟨_, PySem.W.mg_of X G h_RANGE_LIMIT, _, rfl⟩,
      gOP := PySem.W.mg_of X G g_OPERATIONS, gIN := PySem.W.mg_of X G g_INSTRUCTIONS,
      o_added := ⟨esOPERATIONS, nnOPERATIONS, _, dl_OPERATIONS, dk_OPERATIONS, d0_OPERATIONS, rfl⟩, o_subtracted := ⟨esOPERATIONS, nnOPERATIONS, _, dl_OPERATIONS, dk_OPERATIONS, d1_OPERATIONS, rfl⟩, o_multiplied := ⟨esOPERATIONS, nnOPERATIONS, _, dl_OPERATIONS, dk_OPERATIONS, d2_OPERATIONS, rfl⟩, o_quotient := ⟨esOPERATIONS, nnOPERATIONS, _, dl_OPERATIONS, dk_OPERATIONS, d3_OPERATIONS, rfl⟩, o_remainder := ⟨esOPERATIONS, nnOPERATIONS, _, dl_OPERATIONS, dk_OPERATIONS, d4_OPERATIONS, rfl⟩, o_smaller := ⟨esOPERATIONS, nnOPERATIONS, _, dl_OPERATIONS, dk_OPERATIONS, d5_OPERATIONS, rfl⟩, o_larger := ⟨esOPERATIONS, nnOPERATIONS, _, dl_OPERATIONS, dk_OPERATIONS, d6_OPERATIONS, rfl⟩, o_is_less := ⟨esOPERATIONS, nnOPERATIONS, _, dl_OPERATIONS, dk_OPERATIONS, d7_OPERATIONS, rfl⟩, o_is_equal := ⟨esOPERATIONS, nnOPERATIONS, _, dl_OPERATIONS, dk_OPERATIONS, d8_OPERATIONS, rfl⟩,
      n_fill := ⟨esINSTRUCTIONS, nnINSTRUCTIONS, _, dl_INSTRUCTIONS, dk_INSTRUCTIONS, d0_INSTRUCTIONS, rfl⟩, n_calc := ⟨esINSTRUCTIONS, nnINSTRUCTIONS, _, dl_INSTRUCTIONS, dk_INSTRUCTIONS, d1_INSTRUCTIONS, rfl⟩, n_take := ⟨esINSTRUCTIONS, nnINSTRUCTIONS, _, dl_INSTRUCTIONS, dk_INSTRUCTIONS, d2_INSTRUCTIONS, rfl⟩, n_pick := ⟨esINSTRUCTIONS, nnINSTRUCTIONS, _, dl_INSTRUCTIONS, dk_INSTRUCTIONS, d3_INSTRUCTIONS, rfl⟩, n_repeat := ⟨esINSTRUCTIONS, nnINSTRUCTIONS, _, dl_INSTRUCTIONS, dk_INSTRUCTIONS, d4_INSTRUCTIONS, rfl⟩, n_count := ⟨esINSTRUCTIONS, nnINSTRUCTIONS, _, dl_INSTRUCTIONS, dk_INSTRUCTIONS, d5_INSTRUCTIONS, rfl⟩, n_where := ⟨esINSTRUCTIONS, nnINSTRUCTIONS, _, dl_INSTRUCTIONS, dk_INSTRUCTIONS, d6_INSTRUCTIONS, rfl⟩, n_weave := ⟨esINSTRUCTIONS, nnINSTRUCTIONS, _, dl_INSTRUCTIONS, dk_INSTRUCTIONS, d7_INSTRUCTIONS, rfl⟩, n_join := ⟨esINSTRUCTIONS, nnINSTRUCTIONS, _, dl_INSTRUCTIONS, dk_INSTRUCTIONS, d8_INSTRUCTIONS, rfl⟩, n_sums := ⟨esINSTRUCTIONS, nnINSTRUCTIONS, _, dl_INSTRUCTIONS, dk_INSTRUCTIONS, d9_INSTRUCTIONS, rfl⟩, n_zip := ⟨esINSTRUCTIONS, nnINSTRUCTIONS, _, dl_INSTRUCTIONS, dk_INSTRUCTIONS, d10_INSTRUCTIONS, rfl⟩, n_place := ⟨esINSTRUCTIONS, nnINSTRUCTIONS, _, dl_INSTRUCTIONS, dk_INSTRUCTIONS, d11_INSTRUCTIONS, rfl⟩, n_range := ⟨esINSTRUCTIONS, nnINSTRUCTIONS, _, dl_INSTRUCTIONS, dk_INSTRUCTIONS, d12_INSTRUCTIONS, rfl⟩, n_same := ⟨esINSTRUCTIONS, nnINSTRUCTIONS, _, dl_INSTRUCTIONS, dk_INSTRUCTIONS, d13_INSTRUCTIONS, rfl⟩, n_flags := ⟨esINSTRUCTIONS, nnINSTRUCTIONS, _, dl_INSTRUCTIONS, dk_INSTRUCTIONS, d14_INSTRUCTIONS, rfl⟩ }
  exact ⟨_, fun s v => .of_eq rfl, fun base _ _ => ok_law T⟩
end K6
open PySem PySem.W PyProof.Rows
set_option maxRecDepth 100000 in
set_option maxHeartbeats 0 in
theorem PySem.Challenge.cw_flatsheaves_k06_vector_instructions_holds : PySem.Challenge.rw_flatsheaves_k06_vector_instructions.Holds := by
  w_on; o_law; k_head; (case hw => w_witness2)
  k_fill
  refine GX.walkG (l := PySem.Challenge.rw_flatsheaves_k06_vector_instructions) (n := 63) (k := 6) (x := "script") (cx := fun w => L2.CX0) (sp := fun w => K6.spLaw _) rfl (by decide) rfl ⟨rfl, by decide, by decide⟩ (fun w h Y => PySem.W.kIn_of Y) ?F (fun _ _ a ns hl hS => ⟨a, ns, rfl, hS, hl, fun _ => rfl⟩) fun _ _ _ _ _ z => z
  case F =>
    intro w mg fa h KX G hmg
    refine' K6.all_mk KX G hmg ?hhg_FlatError ?hhg_TrapError ?hhx_TrapError ?hhxk_TrapError ?hhxb_TrapError ?hhxt_TrapError ?hhxi_TrapError ?hhxs_TrapError ?hha0 ?hhl0 ?hhc0 ?hhk0 ?hha1 ?hhl1 ?hhc1 ?hhk1 ?hha2 ?hhl2 ?hhc2 ?hhk2 ?hha3 ?hhl3 ?hhc3 ?hhk3 ?hha4 ?hhl4 ?hhc4 ?hhk4 ?hha5 ?hhl5 ?hhc5 ?hhk5 ?hha6 ?hhl6 ?hhc6 ?hhk6 ?hha7 ?hhl7 ?hhc7 ?hhk7 ?hha8 ?hhl8 ?hhc8 ?hhk8 ?hha9 ?hhl9 ?hhc9 ?hhk9 ?hha10 ?hhl10 ?hhc10 ?hhk10 ?hha11 ?hhl11 ?hhc11 ?hhk11 ?hha12 ?hhl12 ?hhc12 ?hhk12 ?hha13 ?hhl13 ?hhc13 ?hhk13 ?hha14 ?hhl14 ?hhc14 ?hhk14 ?hha15 ?hhl15 ?hhc15 ?hhk15 ?hha16 ?hhl16 ?hhc16 ?hhk16 ?hha17 ?hhl17 ?hhc17 ?hhk17 ?hha18 ?hhl18 ?hhc18 ?hhk18 ?hha19 ?hhl19 ?hhc19 ?hhk19 ?hha20 ?hhl20 ?hhc20 ?hhk20 ?hha21 ?hhl21 ?hhc21 ?hhk21 ?hha22 ?hhl22 ?hhc22 ?hhk22 ?hha23 ?hhl23 ?hhc23 ?hhk23 ?hha24 ?hhl24 ?hhc24 ?hhk24 ?hha25 ?hhl25 ?hhc25 ?hhk25 ?hha26 ?hhl26 ?hhc26 ?hhk26 ?hha27 ?hhl27 ?hhc27 ?hhk27 ?hha28 ?hhl28 ?hhc28 ?hhk28 ?hha29 ?hhl29 ?hhc29 ?hhk29 ?hha30 ?hhl30 ?hhc30 ?hhk30 ?hha31 ?hhl31 ?hhc31 ?hhk31 ?hha32 ?hhl32 ?hhc32 ?hhk32 ?hha33 ?hhl33 ?hhc33 ?hhk33 ?hha34 ?hhl34 ?hhc34 ?hhk34 ?hha35 ?hhl35 ?hhc35 ?hhk35 ?hha36 ?hhl36 ?hhc36 ?hhk36 ?hha37 ?hhl37 ?hhc37 ?hhk37 ?hhb_len ?hhb_abs ?hhb_int ?hhb_min ?hhb_max ?hhb_isinstance ?hhb_range ?hhb_zip ?hhb_enumerate ?hhb_list ?hhb_sum ?hhb_repr ?hhh_HALF ?hhh_SPAN ?hhh_RANGE_LIMIT ?hhg_OPERATIONS ?hhdl_OPERATIONS ?hhdk_OPERATIONS ?hhd0_OPERATIONS ?hhd1_OPERATIONS ?hhd2_OPERATIONS ?hhd3_OPERATIONS ?hhd4_OPERATIONS ?hhd5_OPERATIONS ?hhd6_OPERATIONS ?hhd7_OPERATIONS ?hhd8_OPERATIONS ?hhg_INSTRUCTIONS ?hhdl_INSTRUCTIONS ?hhdk_INSTRUCTIONS ?hhd0_INSTRUCTIONS ?hhd1_INSTRUCTIONS ?hhd2_INSTRUCTIONS ?hhd3_INSTRUCTIONS ?hhd4_INSTRUCTIONS ?hhd5_INSTRUCTIONS ?hhd6_INSTRUCTIONS ?hhd7_INSTRUCTIONS ?hhd8_INSTRUCTIONS ?hhd9_INSTRUCTIONS ?hhd10_INSTRUCTIONS ?hhd11_INSTRUCTIONS ?hhd12_INSTRUCTIONS ?hhd13_INSTRUCTIONS ?hhd14_INSTRUCTIONS
    (case hhg_FlatError => k_is)
    (case hhg_TrapError => k_is)
    (case hhx_TrapError => k_exc)
    (case hhxk_TrapError => k_is)
    (case hhxb_TrapError => k_is)
    (case hhxt_TrapError => k_is)
    (case hhxi_TrapError => k_is)
    (case hhxs_TrapError => k_is)
    (case hha0 => k_is)
    (case hhl0 => k_is)
    (case hhc0 => k_is)
    (case hhk0 => k_is)
    (case hha1 => k_is)
    (case hhl1 => k_is)
    (case hhc1 => k_is)
    (case hhk1 => k_is)
    (case hha2 => k_is)
    (case hhl2 => k_is)
    (case hhc2 => k_is)
    (case hhk2 => k_is)
    (case hha3 => k_is)
    (case hhl3 => k_is)
    (case hhc3 => k_is)
    (case hhk3 => k_is)
    (case hha4 => k_is)
    (case hhl4 => k_is)
    (case hhc4 => k_is)
    (case hhk4 => k_is)
    (case hha5 => k_is)
    (case hhl5 => k_is)
    (case hhc5 => k_is)
    (case hhk5 => k_is)
    (case hha6 => k_is)
    (case hhl6 => k_is)
    (case hhc6 => k_is)
    (case hhk6 => k_is)
    (case hha7 => k_is)
    (case hhl7 => k_is)
    (case hhc7 => k_is)
    (case hhk7 => k_is)
    (case hha8 => k_is)
    (case hhl8 => k_is)
    (case hhc8 => k_is)
    (case hhk8 => k_is)
    (case hha9 => k_is)
    (case hhl9 => k_is)
    (case hhc9 => k_is)
    (case hhk9 => k_is)
    (case hha10 => k_is)
    (case hhl10 => k_is)
    (case hhc10 => k_is)
    (case hhk10 => k_is)
    (case hha11 => k_is)
    (case hhl11 => k_is)
    (case hhc11 => k_is)
    (case hhk11 => k_is)
    (case hha12 => k_is)
    (case hhl12 => k_is)
    (case hhc12 => k_is)
    (case hhk12 => k_is)
    (case hha13 => k_is)
    (case hhl13 => k_is)
    (case hhc13 => k_is)
    (case hhk13 => k_is)
    (case hha14 => k_is)
    (case hhl14 => k_is)
    (case hhc14 => k_is)
    (case hhk14 => k_is)
    (case hha15 => k_is)
    (case hhl15 => k_is)
    (case hhc15 => k_is)
    (case hhk15 => k_is)
    (case hha16 => k_is)
    (case hhl16 => k_is)
    (case hhc16 => k_is)
    (case hhk16 => k_is)
    (case hha17 => k_is)
    (case hhl17 => k_is)
    (case hhc17 => k_is)
    (case hhk17 => k_is)
    (case hha18 => k_is)
    (case hhl18 => k_is)
    (case hhc18 => k_is)
    (case hhk18 => k_is)
    (case hha19 => k_is)
    (case hhl19 => k_is)
    (case hhc19 => k_is)
    (case hhk19 => k_is)
    (case hha20 => k_is)
    (case hhl20 => k_is)
    (case hhc20 => k_is)
    (case hhk20 => k_is)
    (case hha21 => k_is)
    (case hhl21 => k_is)
    (case hhc21 => k_is)
    (case hhk21 => k_is)
    (case hha22 => k_is)
    (case hhl22 => k_is)
    (case hhc22 => k_is)
    (case hhk22 => k_is)
    (case hha23 => k_is)
    (case hhl23 => k_is)
    (case hhc23 => k_is)
    (case hhk23 => k_is)
    (case hha24 => k_is)
    (case hhl24 => k_is)
    (case hhc24 => k_is)
    (case hhk24 => k_is)
    (case hha25 => k_is)
    (case hhl25 => k_is)
    (case hhc25 => k_is)
    (case hhk25 => k_is)
    (case hha26 => k_is)
    (case hhl26 => k_is)
    (case hhc26 => k_is)
    (case hhk26 => k_is)
    (case hha27 => k_is)
    (case hhl27 => k_is)
    (case hhc27 => k_is)
    (case hhk27 => k_is)
    (case hha28 => k_is)
    (case hhl28 => k_is)
    (case hhc28 => k_is)
    (case hhk28 => k_is)
    (case hha29 => k_is)
    (case hhl29 => k_is)
    (case hhc29 => k_is)
    (case hhk29 => k_is)
    (case hha30 => k_is)
    (case hhl30 => k_is)
    (case hhc30 => k_is)
    (case hhk30 => k_is)
    (case hha31 => k_is)
    (case hhl31 => k_is)
    (case hhc31 => k_is)
    (case hhk31 => k_is)
    (case hha32 => k_is)
    (case hhl32 => k_is)
    (case hhc32 => k_is)
    (case hhk32 => k_is)
    (case hha33 => k_is)
    (case hhl33 => k_is)
    (case hhc33 => k_is)
    (case hhk33 => k_is)
    (case hha34 => k_is)
    (case hhl34 => k_is)
    (case hhc34 => k_is)
    (case hhk34 => k_is)
    (case hha35 => k_is)
    (case hhl35 => k_is)
    (case hhc35 => k_is)
    (case hhk35 => k_is)
    (case hha36 => k_is)
    (case hhl36 => k_is)
    (case hhc36 => k_is)
    (case hhk36 => k_is)
    (case hha37 => k_is)
    (case hhl37 => k_is)
    (case hhc37 => k_is)
    (case hhk37 => k_is)
    (case hhb_len => k_is)
    (case hhb_abs => k_is)
    (case hhb_int => k_is)
    (case hhb_min => k_is)
    (case hhb_max => k_is)
    (case hhb_isinstance => k_is)
    (case hhb_range => k_is)
    (case hhb_zip => k_is)
    (case hhb_enumerate => k_is)
    (case hhb_list => k_is)
    (case hhb_sum => k_is)
    (case hhb_repr => k_is)
    (case hhh_HALF => k_is)
    (case hhh_SPAN => k_is)
    (case hhh_RANGE_LIMIT => k_is)
    (case hhg_OPERATIONS => k_is)
    (case hhdl_OPERATIONS => k_is)
    (case hhdk_OPERATIONS => exact ⟨⟨_, _, rfl, rfl⟩, ⟨_, _, rfl, rfl⟩, ⟨_, _, rfl, rfl⟩, ⟨_, _, rfl, rfl⟩, ⟨_, _, rfl, rfl⟩, ⟨_, _, rfl, rfl⟩, ⟨_, _, rfl, rfl⟩, ⟨_, _, rfl, rfl⟩, ⟨_, _, rfl, rfl⟩, trivial⟩)
    (case hhd0_OPERATIONS => k_is)
    (case hhd1_OPERATIONS => k_is)
    (case hhd2_OPERATIONS => k_is)
    (case hhd3_OPERATIONS => k_is)
    (case hhd4_OPERATIONS => k_is)
    (case hhd5_OPERATIONS => k_is)
    (case hhd6_OPERATIONS => k_is)
    (case hhd7_OPERATIONS => k_is)
    (case hhd8_OPERATIONS => k_is)
    (case hhg_INSTRUCTIONS => k_is)
    (case hhdl_INSTRUCTIONS => k_is)
    (case hhdk_INSTRUCTIONS => exact ⟨⟨_, _, rfl, rfl⟩, ⟨_, _, rfl, rfl⟩, ⟨_, _, rfl, rfl⟩, ⟨_, _, rfl, rfl⟩, ⟨_, _, rfl, rfl⟩, ⟨_, _, rfl, rfl⟩, ⟨_, _, rfl, rfl⟩, ⟨_, _, rfl, rfl⟩, ⟨_, _, rfl, rfl⟩, ⟨_, _, rfl, rfl⟩, ⟨_, _, rfl, rfl⟩, ⟨_, _, rfl, rfl⟩, ⟨_, _, rfl, rfl⟩, ⟨_, _, rfl, rfl⟩, ⟨_, _, rfl, rfl⟩, trivial⟩)
    (case hhd0_INSTRUCTIONS => k_is)
    (case hhd1_INSTRUCTIONS => k_is)
    (case hhd2_INSTRUCTIONS => k_is)
    (case hhd3_INSTRUCTIONS => k_is)
    (case hhd4_INSTRUCTIONS => k_is)
    (case hhd5_INSTRUCTIONS => k_is)
    (case hhd6_INSTRUCTIONS => k_is)
    (case hhd7_INSTRUCTIONS => k_is)
    (case hhd8_INSTRUCTIONS => k_is)
    (case hhd9_INSTRUCTIONS => k_is)
    (case hhd10_INSTRUCTIONS => k_is)
    (case hhd11_INSTRUCTIONS => k_is)
    (case hhd12_INSTRUCTIONS => k_is)
    (case hhd13_INSTRUCTIONS => k_is)
    (case hhd14_INSTRUCTIONS => k_is)
#print axioms PySem.Challenge.cw_flatsheaves_k06_vector_instructions_holds

