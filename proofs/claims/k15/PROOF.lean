import PyProof.Rows.All
import Wide.All
import OpenK.AllK
import Wide.FinOn
import PyProof.ReprRoads
import HandS.ForMost
import HandS.ForExc
import KE.GoesComp
import KE.KIndexOf
import HandS.Style
import PyProof.ListCopy
import HandS.List
import HandS.Call
import HandS.SortKw
import HandS.Walk
import KE.GoesEnumKw
import PyProof.Rows.SetFrom
import HandS.SetFor
import HandS.Strs
import HandS.Wide
import HandS.ExcIs
import HandS.IsInst
import HandS.CallLocal
import HandS.More
import HandS.Set
import HandS.SetKeys
import HandS.FStr
import HandS.Small
import HandS.Star
import PyProof.Rows.SortShellAny
import HandS.Conv
import HandS.NoneIn
import HandS.Deep
import HandS.DictComp
import HandS.SortInts
import HandS.Flow
import HandS.Gcd
import HandS.TupLe
import PySem.Challenge.RW_flatsheaves_k15_slots_of_blocks
set_option Elab.async false
set_option linter.all false
set_option maxRecDepth 100000
set_option maxHeartbeats 4000000
namespace GX
open PySem PySem.Spec PyProof.Rows L2
/-! ### defs that show data by repr: no text is being shown around them -/
structure FnG (P : Program) (w : World) (K : PySem.W.Frag) (mg : Str → Option Value) (base : Heap) (cx : CXT) (k : Nat) (f : Addr) (fd : FuncData) (ps : List Str) (sp : Sp) : Prop where
  len : ∀ {vs H Q E}, sp vs H Q E → vs.length = ps.length
  run : ∀ {A : Around} {outer : List Env} {s : Shared} {H : Hp} {g : Args} {us : List Value} {vs : List V} {Q : VK} {E : XK}, A.guards = some [] → Room k A → Env0 P w K mg base A outer s H →
    BindsTo s fd g (ps.zip us) → Vals vs us → sp vs H Q E → codeAny (model P w) A (.call (.ref f) g) (CR cx outer P w H s Q E) s
theorem ce_end {P : Program} {w : World} {K : PySem.W.Frag} {mg : Str → Option Value} {base : Heap} {N : List Str} {q : Str} {sc : Scope} {f : Addr} {cd : Value} {A : Around} {outer : List Env} {s s' : Shared} {H H' : Hp} {E : XK} {cx : CXT} {σ : L2.St} {v : V} {u : Value} {Q : VK}
    (I : Inv (cxOf cx P w K mg base N q sc f cd A outer s H E) [] σ H' s') (r : RelV v u) (z : Q v H') : CE outer P w H s Q u s' := ⟨v, H', I.os, I.bare, I.base, I.hok, r, z⟩
section
variable {P : Program} {w : World} {K : PySem.W.Frag} {mg : Str → Option Value} {base : Heap} {cx : CXT} {k : Nat} {f : Addr} {fd : FuncData} {N ps : List Str} {sp : Sp} {x qual : Str} {st : Stmt}
theorem fnG (F : Fun K x qual st f fd) (S : FnScope N ps (defScope st)) (len : ∀ vs H Q E, sp vs H Q E → vs.length = ps.length)
    (body : ∀ (cdv : Value) (A : Around) (outer : List Env) (s : Shared) (H : Hp) (vs : List V) (Q : VK) (E : XK), (A.deeper (envOfC qual (defScope st) s.heap.objs.size f cdv)).guards = some [] → Room k (A.deeper (envOfC qual (defScope st) s.heap.objs.size f cdv)) → sp vs H Q E →
      ∃ t, PSs (cxOf cx P w K mg base N qual (defScope st) f cdv A outer s H E) (defBody st) t ∧ t { nx := fun _ H' => Q .non H', rt := Q } (start N vs) H) : FnG P w K mg base cx (k + 1) f fd ps sp := by
  obtain ⟨_, _, _, _, _, _, cdv, _, _, rfl, lk, hcd⟩ := F.ex
  constructor
  · intro vs H Q E h; exact len _ _ _ _ h
  intro A outer s H g us vs Q E hg hr e0 hb r h
  have KX : K.In s.heap := e0.mod.kin.keeps fun b o e => (e0.bs b o e).1
  have kinds : ∀ y ∈ ps.zip us, (defScope st).names.lookup y.1 = some .local ∨ ((defScope st).names.lookup y.1 = some .cell ∧ ((cellsFrom (s.heap.objs.size + 1) (defScope st).names []).lookup y.1).isSome = true) := by
    rintro ⟨n, v⟩ hy
    exact (S.par n (List.of_mem_zip hy).1).imp_right fun q => ⟨q, PySem.W.cellsFrom_some _ _ _ (.inl q)⟩
  refine codeAny_call_function hr.depth (KX _ _ lk) rfl S.co S.gen rfl (PySem.W.codeRec_of KX hcd) (hb _ _ _ _ (wpAny_newFunctionEnv_cells S.kind kinds ?_))
  rintro env rfl s1 z
  refine ⟨(e0.mod.nolimit.keeps fun b o e => (e0.bs b o e).1).keeps z.toInCall.keep, codeAny_func ?_⟩
  obtain ⟨t, ht, hq⟩ := body cdv A outer s H vs Q E hg (hr.deeper _) h
  refine wpAny_mono (ht.run [] s1 (start N vs) H _ (inv_start S hr.hd e0 (len _ _ _ _ h) r z) hq) ?_ fun _ _ y => y
  intro fl s' y
  cases fl with
  | next => exact let ⟨_, _, J, q⟩ := y; ce_end (v := V.non) (u := Value.none) J rfl q
  | ret u => exact let ⟨_, _, _, J, rv, q⟩ := y; ce_end J rv q
  | brk => exact let ⟨_, _, _, q⟩ := y; False.elim q
  | cont => exact let ⟨_, _, _, q⟩ := y; False.elim q
end
section
variable {X : Cx} {cx : CXT} {k : Nat} {f : Addr} {fd : FuncData} {ps : List Str} {sp : Sp} {E : XK} {x : Str} {p pos : Pos} {e : Expr} {es : List Expr} {t : TA}
theorem pe_callG (F : FnG X.prog X.w X.K X.mg X.base cx k f fd ps sp) (hg0 : X.A.guards = some []) (hr : Room k X.A) (hg : Gl X x) (hm : X.mg x = some (.ref f)) (hk : PySem.W.keepIn X.K (.ref f) = true) (hb : Binds X.K fd ps []) (hx : Passes cx X E)
    (ha : PA X (e :: es) t) (hdb : (x == ("__debug__" : Str)) = false := by decide) (he : starEach (e :: es) X.env = (false, eval e X.env) :: starEach es X.env := by rfl) (hpl : (backTo pos (starEach es X.env)).any (·.1) = false := by rfl) :
    PE X (.Call (.Name x p) (e :: es) [] pos) (tCall sp [] E t) := by
  constructor
  intro pins s σ H Q I h
  refine wpAny_Call_Name_kw (ld_glob I hg hm (PySem.W.callWith_K (h₀ := X.base) I.ok.mod.kin hk (thn (ha.run pos pins s σ H _ I h) ?_) he hpl) hdb)
  rintro us s1 ⟨vs, H1, J, r, q⟩
  rw [List.append_nil] at q
  refine ⟨J.kIn, wpAny_call (codeAny_mono (F.run hg0 hr J.env0 (by simpa using hb s1 us J.kIn (by rw [List.append_nil, ← r.length]; exact F.len q)) r q) ?_)⟩
  intro res s' y
  match res, y with
  | .error err, y => exact hx pins σ H1 s1 err s' J y
  | .ok (.ret u), y => exact J.after y
  | .ok .next, y => exact False.elim y
  | .ok .brk, y => exact False.elim y
  | .ok .cont, y => exact False.elim y
/-- repr of lists and tuples of data -/
def rReprD (K : PySem.W.Frag) : List V → Hp → VK → Prop := fun xs H Q => ∃ (a : Addr) (d : PyData), xs = [.ref a] ∧ Dp K H (.ref a) d ∧ d.showable = true ∧ d.hasDict = false ∧ d.depth ≤ 60 ∧ d.shown.length ≤ sizeLine ∧ Q (.str d.shown) H
theorem call_reprD (hg : X.A.guards = some []) (hu : X.A.units + 64 < cLine) : CallR X (.builtin "repr") (rReprD X.K) := by
  intro pins s σ H xs us Q I r h
  obtain ⟨a, d, rfl, hd, h1, h2, h3, h4, q⟩ := h
  obtain ⟨u, rfl, rfl⟩ := vals1 r
  obtain ⟨as, hR⟩ := Dp.reads I d _ _ hd (rfl : RelV (.ref a) (.ref a))
  refine repr_of_reads' hR h1 (fun z => by rw [h2] at z; cases z) hg (by omega) (fun _ _ e => e) (fun h' u tk hk => ?_) h4
  exact ⟨.str d.shown, H, I.un (Un.kept hk) (I.hok.kept hk), ⟨u, rfl⟩, q⟩
end
/-! ### the law's end -/
theorem law_callG {P : Program} {w : World} {K : PySem.W.Frag} {mg mb : Str → Option Value} {cx : CXT} {k : Nat} {fa a : Addr} {fd : FuncData} {x : Str} {sp : Sp} {s : Shared} {vs : List Value} {ns : List Int}
    (KX : K.In s.heap) (hns : s.heap.Ns mainGlobals mg) (hb : s.heap.Ns builtinsNs mb) (hbb : ∀ x : Str, x ≠ "__name__" → mb x = bootBuiltins x) (hlim : s.heap.NoLimit) (hgens : s.gens = #[])
    (ha : s.heap.get? a = some { cls := .type "list", data := .seq vs.toArray }) (hi : IntsAre vs ns) (hl : ns.length ≤ sizeLine) (hr : Room k callerA)
    (F : ∀ base : Heap, K.In base → base.Ns mainGlobals mg → FnG P w K mg base cx k fa fd [x] sp) (hbind : ∀ (s : Shared) (u : Value), BindsTo s fd ⟨[u], []⟩ [(x, u)])
    (hsp : ∀ H : Hp, Only H → SqL K H a (ns.map V.int) → sp [.ref a] H (fun v _ => v = .bl true) fun _ _ _ => False)
    (hcx : ∀ H e s', cx [] H s (fun _ _ _ => False) e s' → False) :
    codeAny (model P w) callerA (.call (.ref fa) ⟨[.ref a], []⟩) (fun r s' => r = .ok (.ret (.bool true)) ∧ OldK s.heap s'.heap ∧ s'.os = s.os ∧ AllBare s'.gens) s := by
  have rv := vals_ints hi
  -- the heap: the script alone, where it is no object of the module's own
  have go : ∀ H : Hp, (∀ b u, H b = some u → b = a ∧ K.lookup a = none ∧ ∃ ob xs, u = .frz ob (.lst xs)) → SqL K H a (ns.map V.int) → HOk P w H s.heap →
      codeAny (model P w) callerA (.call (.ref fa) ⟨[.ref a], []⟩) (fun r s' => r = .ok (.ret (.bool true)) ∧ OldK s.heap s'.heap ∧ s'.os = s.os ∧ AllBare s'.gens) s := by
    intro H own hS hok
    have bare : ∀ {b : Addr}, b ≠ a → H b = none := fun {b} n => by
      cases e : H b with
      | none => rfl
      | some u => exact absurd (own b u e).1 n
    have dict : ∀ {b : Addr} {o : Obj} {es : Array DictEntry} {ep : Nat}, s.heap.get? b = some o → o.data = .dict es ep → H b = none := fun {b o es ep} e d => bare fun z => by
      rw [z, ha] at e
      cases e
      exact (nomatch (show Data.seq vs.toArray _ = Data.dict es ep from d))
    have nsB : ∀ {b : Addr} {m : Str → Option Value}, s.heap.Ns b m → (hidT s.heap H).Ns b m := fun {b m} z => by
      obtain ⟨o, es, ep, e, d, r⟩ := z
      exact ⟨o, es, ep, hidT_get e (dict e d), d, r⟩
    have kB : K.In (hidT s.heap H) := fun b o e => hidT_get (KX b o e) (by
      cases q : H b with
      | none => rfl
      | some u =>
        obtain ⟨rfl, n, _⟩ := own b u q
        rw [n] at e
        cases e)
    obtain ⟨mc, c1, c2⟩ := hlim
    have e0 : Env0 P w K mg (hidT s.heap H) callerA [] s H :=
      { frames := rfl, mod := ⟨kB, nsB hns, ⟨mb, nsB hb, hbb⟩, mc, nsB c1, c2⟩, bs := fun b o e => of_hidT e, bsz := Nat.le_of_eq (hidT_size _ _), funs := trivial, frf := fun b z => (nomatch (show b ∈ ([] : List Addr) from z)), hok := hok, bare := .of_eq hgens }
    have only : Only H := fun b => by
      cases e : H b with
      | none => exact .inl rfl
      | some u =>
        obtain ⟨_, _, ob, xs, rfl⟩ := own b u e
        exact .inr ⟨ob, xs, rfl⟩
    refine codeAny_mono ((F _ kB (nsB hns)).run (A := callerA) (us := [.ref a]) rfl hr e0 (hbind s (.ref a)) (.cons (show RelV (.ref a) (.ref a) from rfl) .nil) (hsp H only hS)) ?_
    intro res s' y
    match res, y with
    | .error err, y => exact (hcx H err s' y).elim
    | .ok .next, y => exact False.elim y
    | .ok .brk, y => exact False.elim y
    | .ok .cont, y => exact False.elim y
    | .ok (.ret u), y =>
      obtain ⟨v, H', os, gb, un, hok', r', q⟩ := y
      obtain rfl : v = .bl true := q
      obtain rfl : u = Value.bool true := r'
      refine ⟨rfl, OldK.of_keep fun b o e => ?_, os, gb⟩
      cases q : H b with
      | none => exact un.keep b o e q (fun z => nomatch (show b ∈ ([] : List Addr) from z)) (fun z => nomatch z)
      | some u =>
        obtain ⟨_, _, ob, xs, rfl⟩ := own b u q
        have g1 := (hok b _ q).1
        have g2 := (hok' b _ (un.frzs b ob _ q)).1
        rw [e] at g1
        cases g1
        exact g2
  by_cases hK : K.lookup a = none
  · obtain ⟨H, hH⟩ : ∃ H : Hp, H = upd (fun _ => none) a (.frz { cls := .type "list", data := .seq vs.toArray } (.lst (ns.map V.int))) := ⟨_, rfl⟩
    have at_a : H a = some (.frz { cls := .type "list", data := .seq vs.toArray } (.lst (ns.map V.int))) := by rw [hH]; exact upd_same
    have off : ∀ b u, H b = some u → b = a ∧ u = .frz { cls := .type "list", data := .seq vs.toArray } (.lst (ns.map V.int)) := fun b u e => by
      by_cases c : b = a
      · rw [c, at_a] at e
        exact ⟨c, (Option.some.inj e).symm⟩
      · rw [hH, upd_ne c] at e
        cases e
    refine go H (fun b u e => ⟨(off b u e).1, hK, _, _, (off b u e).2⟩) (.inl (.inr ⟨_, at_a⟩)) fun b u e => ?_
    obtain ⟨rfl, rfl⟩ := off b u e
    exact ⟨ha, by rw [List.length_map]; exact hl, vs, _, rv, ha⟩
  · obtain ⟨o, ho⟩ := Option.ne_none_iff_exists'.mp hK
    have e := KX a o ho
    rw [ha] at e
    obtain rfl := Option.some.inj e
    exact go (fun _ => none) (fun b u z => nomatch (show (none : Option HO) = some u from z)) (.inr ⟨_, vs.toArray, _, ho, rfl, rfl, rfl, by rw [List.size_toArray, hi.length]; exact hl, by simpa using rv⟩) fun b u z => nomatch (show (none : Option HO) = some u from z)
theorem walkG {l : PySem.W.OpenLaw} {n k : Nat} {q : Program} {loose : List Str} {XP : (Str → Option Value) → Heap → Prop} {YP : World → Heap → Prop} {d : DefRec} {K : Params → PySem.W.Frag} {cx : World → CXT} {sp : World → Sp} {x : Str}
    (hn : l.most = some n) (hn2 : n ≤ sizeLine) (hdf : d.params.defaults = []) (hr : Room k callerA) (hY : ∀ (w : World) (h : Heap), YP w h → (K w.params).In h)
    (F : ∀ (w : World) (mg : Str → Option Value) (fa : Addr) (h : Heap), (K w.params).In h → h.Ns mainGlobals mg → mg d.name = some (.ref fa) →
      ∃ fd : FuncData, (∀ (s : Shared) (u : Value), BindsTo s fd ⟨[u], []⟩ [(x, u)]) ∧ ∀ base : Heap, (K w.params).In base → base.Ns mainGlobals mg → FnG l.prog w (K w.params) mg base (cx w) k fa fd [x] (sp w))
    (hsp : ∀ (w : World) (H : Hp) (a : Addr) (ns : List Int), ns.length ≤ n → SqL (K w.params) H a (ns.map V.int) → sp w [.ref a] H (fun v _ => v = .bl true) fun _ _ _ => False)
    (hcx : ∀ (w : World) (H : Hp) (s : Shared) (e : Value) (s' : Shared), cx w [] H s (fun _ _ _ => False) e s' → False) :
    PySem.W.WalkO q loose XP YP l.row.toRowW d [] (fun f vs => PySem.call f vs) := by
  refine Att.attach_call hn hdf ?_
  intro w s₀ s₁ mg mb fa o pm cd doc a vs ns G Y ho hd hcd hmg hobj hints hlen hg
  obtain ⟨fd, hb, hF⟩ := F w mg fa _ (hY w _ Y) G.T.g hmg
  exact law_callG (hY w _ Y) G.T.g G.T.b G.T.builtins G.T.nolimit hg hobj hints (Nat.le_trans hlen hn2) hr hF hb (fun H _ hS => hsp w H a ns hlen hS) fun H e s' => hcx w H s₁ e s'
end GX

namespace LX
open PySem PySem.Spec PyProof.Rows L2
/-! ### an exception that leaves a list comprehension -/
theorem same_frame (x : Value) (sc : Scope) (cl : List (Str × Addr)) (C : Addr) (env : Env) : noteFrame x (compEnvC sc cl C env) = noteFrame x env := rfl
/-- the heap without one address -/
theorem without (h : Heap) (C : Addr) : ∃ G : Heap, (∀ b, b ≠ C → G.get? b = h.get? b) ∧ G.get? C = none := by
  obtain ⟨G, g1, g2⟩ := restrict h fun b => decide (b ≠ C)
  exact ⟨G, fun b n => g1 b (decide_eq_true n), g2 C (by simp)⟩
theorem frames_move {l : List Env} {h h' B B' : Heap} {C : Addr} (f : h.FunFrames B l) (nC : C ∉ frs l) (k : ∀ b, b ≠ C → h'.get? b = h.get? b) (kB : ∀ b o, B'.get? b = some o → B.get? b = some o) : h'.FunFrames B' l := by
  induction l with
  | nil => trivial
  | cons e r ih =>
    obtain ⟨a1, ⟨L, o, a2, a3, a4, a5⟩, a6⟩ := f
    have nL : L ≠ C := fun z => nC (List.mem_filterMap.mpr ⟨e, List.mem_cons_self .., by rw [a2, z]⟩)
    have nB : B'.get? L = none := by
      cases z : B'.get? L with
      | none => rfl
      | some o' => have := kB _ _ z; rw [a3] at this; cases this
    refine ⟨a1, ⟨L, o, a2, nB, (k L nL).trans a4, a5⟩, ih a6 fun z => nC ?_⟩
    obtain ⟨e', m, q⟩ := List.mem_filterMap.mp z
    exact List.mem_filterMap.mpr ⟨e', List.mem_cons_of_mem _ m, q⟩
theorem traced_move {h h' B B' : Heap} {C a : Addr} {Z : Obj → Prop} {v : Value} (t : HandSPX.TracedZ h B a Z v) (na : a ≠ C) (k : ∀ b, b ≠ C → h'.get? b = h.get? b) (hC : ∃ o, B.get? C = some o) (kB : ∀ b o, B'.get? b = some o → B.get? b = some o) : HandSPX.TracedZ h' B' a Z v := by
  obtain ⟨oe, vs, T, oT, ts, q1, q2, q3, q4, q5, q6, q7, q8, q9⟩ := t
  have nT : T ≠ C := fun z => by
    obtain ⟨o, e⟩ := hC
    rw [z, e] at q5; cases q5
  have nB : B'.get? T = none := by
    cases z : B'.get? T with
    | none => rfl
    | some o' => have := kB _ _ z; rw [q5] at this; cases this
  exact ⟨oe, vs, T, oT, ts, (k a na).trans q1, q2, q3, q4, nB, q6, (k T nT).trans q7, q8, q9⟩
section
variable {X : Cx} {pins : List (Addr × Obj)} {σ : L2.St} {H : Hp} {s s' : Shared}
theorem let_out {EX : XK} {C : Addr} {m : Str → Option Value} {scope : Scope} {cl : List (Str × Addr)} {u : Value} (hs : X.stack = X.env :: X.outer) (hf : X.env.frame = some X.env.locals) (tk : Takes X (fun c d _ H' => EX c d H'))
    (J : Inv X pins σ H s) (fC : FpOk X pins H C) (hn : s.heap.Ns C m) (c : CX X.prog X.w X.stack H s EX u s') :
    notedBy (model X.prog X.w) X.A (compEnvC scope cl C X.env) (CompFails (model X.prog X.w) X.A X.xe (compEnvC scope cl C X.env)) u s' := by
  obtain ⟨a, B, H', cls, d, rfl, fl, hok, ub, na, os, ag, hE⟩ := c
  have nC : C ∉ frs X.stack := fun z => by
    rw [hs] at z
    have z2 : C ∈ X.env.locals :: frs X.outer := by
      unfold frs at z
      rw [List.filterMap_cons, hf] at z
      exact z
    rcases List.mem_cons.mp z2 with z3 | z3
    · exact fC.2.1 z3
    · exact fC.2.2.1 z3
  obtain ⟨oC, esC, epC, gC, dC, rC⟩ := hn
  have bC : B.get? C = some oC := ub.keep C oC gC fC.1 nC
  have naC : a ≠ C := fun z => by
    have q := fl.2.1
    rw [z, bC] at q; cases q
  have hfr : X.A.frames = some (X.env :: X.outer) := by rw [J.ok.frames, hs]
  show wpAny _ _ (noteFrame (.ref a) (compEnvC scope cl C X.env)) _ _ s'
  rw [same_frame]
  refine HandSPX.looks_onZ Zc.steady hfr hf (by rw [hs] at fl; exact fl) fun h1 hh up => ?_
  refine ⟨m, ⟨oC, esC, epC, hh.1 C oC bC, dC, rC⟩, fun h2 m2 _ sb => ?_⟩
  have same2 : ∀ b, b ≠ C → h2.get? b = h1.get? b := fun b n => sb.2 b n
  obtain ⟨B2, g1, g2⟩ := without B C
  have kB : ∀ b o, B2.get? b = some o → B.get? b = some o := fun b o e => by
    by_cases z : b = C
    · rw [z, g2] at e; cases e
    · rw [g1 b z] at e; exact e
  have hs2 : B2.StaysIn h2 := fun b o e => by
    by_cases z : b = C
    · rw [z, g2] at e; cases e
    · rw [same2 b z]; exact hh.1 b o (kB b o e)
  have ff2 : h2.FunFrames B2 (X.env :: X.outer) := frames_move hh.2.2.1 (by rw [← hs]; exact nC) same2 kB
  have tr2 : HandSPX.TracedZ h2 B2 a (Zc cls d) (rawInt X.env.locals) := traced_move hh.2.2.2 naC same2 ⟨_, bC⟩ kB
  have a2 : B2.get? a = none := by
    cases z : B2.get? a with
    | none => rfl
    | some o => have := kB _ _ z; rw [fl.2.1] at this; cases this
  have hh2 : HandSPX.HeldZ B2 (X.env :: X.outer) a (Zc cls d) X.env.locals h2 := ⟨hs2, a2, ff2, tr2⟩
  obtain ⟨oe, vs, T, oT, ts, q1, q2, q3, q4, q5, q6, q7, q8, q9⟩ := tr2
  show wpAny _ _ (PySem.passOn _ (.ref a) _) _ _ _
  unfold PySem.passOn
  refine wpAny_bind (wpAny_field (s := { s' with heap := h2 }) q1 q3 q4 ?_)
  rw [if_neg (show ¬ ((Value.ref T == Value.none) = true) from by simp)]
  refine wpAny_bind ?_
  show wpAny _ _ (setFlight (.ref a) X.env.frame) _ _ _
  rw [hf]
  refine HandSPX.setFlight_onZ (s := { s' with heap := h2 }) hh2 fun h3 hh3 up3 => ?_
  refine wpAny_throw (tk _ _ ?_)
  obtain ⟨G, r1, r2⟩ := restrict h3 fun b => (B2.get? b).isSome || decide (b ∈ frs X.stack)
  have gB : ∀ b o, B2.get? b = some o → G.get? b = some o := fun b o e => (r1 b (by simp [e])).trans (hh3.1 b o e)
  have inG : ∀ b o, G.get? b = some o → h3.get? b = some o ∧ ((B2.get? b).isSome = true ∨ b ∈ frs X.stack) := fun b o e => by
    by_cases z : ((B2.get? b).isSome || decide (b ∈ frs X.stack)) = true
    · rw [r1 b z] at e
      exact ⟨e, by simpa using z⟩
    · rw [r2 b (Bool.eq_false_iff.mpr z)] at e; cases e
  have onF : ∀ b, b ∈ frs X.stack → ∀ o, s.heap.get? b = some o → ∃ sl, G.get? b = some { o with slots := sl } := fun b hb o e => by
    obtain ⟨_, o0, e0, nf⟩ := J.stack.mem hb
    rw [e] at e0; cases e0
    obtain ⟨s1, e1⟩ := ub.slot b o e hb
    obtain ⟨s2, e2⟩ := up b _ e1 nf
    have e3 : h2.get? b = some { o with slots := s2 } := (same2 b (fun z => nC (z ▸ hb))).trans e2
    obtain ⟨s4, e4⟩ := up3 b _ e3 nf
    exact ⟨s4, (r1 b (by simp [hb])).trans e4⟩
  have keepB : ∀ b o, s.heap.get? b = some o → H b = none → b ∉ frs X.stack → b ≠ C → B2.get? b = some o := fun b o e n hb nb => (g1 b nb).trans (ub.keep b o e n hb)
  have thB : ∀ b o, s.heap.get? b = some o → b ∉ frs X.stack → b ≠ C → ∃ o', B2.get? b = some o' := fun b o e hb nb => by
    obtain ⟨o', q⟩ := ub.there b o e hb
    exact ⟨o', (g1 b nb).trans q⟩
  have hokG : HOk X.prog X.w H' G := fun b o q => by
    have nb : b ≠ C := fun z => by
      have := ub.free C oC gC fC.1
      rw [← z, q] at this; cases this
    refine (hok b o q).stay (fun c u hc r => gB c u ((g1 c ?_).trans r)) (fun _ r => r) fun _ _ r => r
    rcases hc with hc | hc
    · rw [hc]; exact nb
    · intro z
      have := ub.free C oC gC fC.1
      rw [← z, hc] at this; cases this
  have J2 : Inv X pins σ H' { s with heap := G, gens := s'.gens, drawn := s'.drawn, toks := s'.toks } := by
    refine J.call (ch := [C]) ⟨fun b o e n hb hc => gB b o (keepB b o e n hb (fun z => hc (by simp [z]))), fun b o e n hb _ => onF b hb o e, fun b o e n _ => ub.free b o e n, fun b o e hc => ?_, ub.tups, ub.frzs, ub.tbls⟩ hokG ag (fun b hb => ?_)
    · by_cases hb : b ∈ frs X.stack
      · obtain ⟨sl, q⟩ := onF b hb o e
        exact ⟨_, q⟩
      · obtain ⟨o', q⟩ := thB b o e hb (fun z => hc (by simp [z]))
        exact ⟨o', gB b o' q⟩
    · rw [List.mem_singleton.mp hb]
      exact ⟨fC.2.2.2.1, fC.2.1, fC.2.2.2.2.1, fC.2.2.2.2.2⟩
  refine ⟨a, B2, _, pins, σ, H', cls, d, rfl, J2, fun b o e hb => ?_, Heap.UpToSlots.of_keeps fun b o e => (inG b o e).1, .inr (.inr (by rw [hs]; exact hh3)), na, os, ag, hE⟩
  obtain ⟨e', z⟩ := inG b o e
  rcases z with z | z
  · obtain ⟨o', q⟩ := Option.isSome_iff_exists.mp z
    have := hh3.1 b o' q
    rw [e'] at this; cases this
    exact q
  · exact absurd z hb
/-- a list comprehension whose element may raise what EX wishes of -/
theorem pe_lcX {elt tg iter : Expr} {ifs : List Expr} {scope : Scope} {own : List (Str × Nat)} {pos : Pos} {wi : TI} {g : TG} {tt : TT} {te : TE} {EX : XK}
    (hc : X.calm = true) (hN : X.N.Nodup) (hst : X.stack = X.env :: X.outer) (hfr : X.env.frame = some X.env.locals) (tk : Takes X fun c d _ H' => EX c d H') (hi : PI X tg iter wi) (ok : BlkOk X.N X.env.scope scope own)
    (hg : ∀ (s0 : Shared) (H0 : Hp) (C : Addr) (cl : List (Str × Addr)) (fp : List Addr), PG (X.blk s0 H0 scope (compEnvC scope cl C X.env) fp) tg g)
    (ht : ∀ (s0 : Shared) (H0 : Hp) (C : Addr) (cl : List (Str × Addr)) (fp : List Addr), PTs (X.blk s0 H0 scope (compEnvC scope cl C X.env) fp) ifs tt)
    (he : ∀ (s0 : Shared) (H0 : Hp) (C : Addr) (cl : List (Str × Addr)) (fp : List Addr) (EE : Value → Shared → Prop), Passes (L2.CX X.prog X.w) ((X.blk s0 H0 scope (compEnvC scope cl C X.env) fp).wish EE) EX → PE ((X.blk s0 H0 scope (compEnvC scope cl C X.env) fp).wish EE) elt te)
    (hs : ∀ x, foldedSetIterable iter X.env x = pure x := by intro _; rfl) : PE X (.ListComp elt [⟨tg, iter, ifs, 0⟩] scope pos) (tLc wi g tt te (own.map (·.2))) := by
  constructor
  intro pins s σ H Q I rd
  have captured : ∀ y ∈ scope.names, y.2 = .free → ∃ c, X.env.cells.lookup y.1 = some c := fun y hy e => (ok.free y hy e).elim (fun k => I.ok.has _ (.inl k)) fun k => I.ok.has _ (.inr k)
  rw [eval_ListComp]
  refine comprehension_at (use := none) rfl hs (closure_ok captured) ok.kind (fun y hy e => (ok.uniq y hy).trans (congrArg some e)) (thn (hi.run pins s σ H _ I rd) fun v1 t1 r1 => thn r1 fun v2 t2 r2 => ?_)
  obtain ⟨it, fp, tn, J, H2, rfl, I2, T, st2, f2, q⟩ := r2
  refine wpAny_newObj_type (newEnv_comp ?_) (by show 0 ≤ sizeLine; decide)
  obtain ⟨D, hD⟩ : ∃ D, D = t2.heap.objs.size := ⟨_, rfl⟩
  rw [← hD]
  have freeD : H2 D = none := I2.hok.fresh (Nat.le_of_eq hD.symm)
  obtain ⟨W, ⟨m0, w0⟩, turn⟩ := q D freeD
  obtain ⟨t3, h3⟩ : ∃ t3 : Shared, t3 = { t2 with heap := t2.heap.push { cls := .type "list", data := .seq ([] : List Value).toArray } } := ⟨_, rfl⟩
  have hp3 : t3.heap = t2.heap.push { cls := .type "list", data := .seq ([] : List Value).toArray } := by rw [h3]
  obtain ⟨H3, hH3⟩ : ∃ H3, H3 = upd H2 D (.lst []) := ⟨_, rfl⟩
  have I3 : Inv X pins σ H3 t3 := by
    have := I2.laid (t' := t2.toks) (a := D) (o := .lst []) (h' := t3.heap) (fun b o e => by rw [hp3]; exact Heap.get?_push_of_some _ e) (Nat.le_of_eq hD.symm) ⟨Nat.zero_le _, [], 0, .nil, by rw [hp3, hD]; exact Heap.get?_push_size _ rfl⟩
    rw [hH3]
    rw [h3] at this ⊢
    exact this
  have younger : ∀ b ∈ fp, b < t2.heap.objs.size := fun b hb => let ⟨_, e, _⟩ := T.obj _ _ st2 b hb; Heap.lt_size e
  have f3 : ∀ b ∈ fp, FpOk X pins H3 b ∧ b < t3.heap.objs.size := fun b hb => by
    have lt := younger b hb
    refine ⟨⟨?_, (f2 b hb).2⟩, by rw [hp3, Heap.size_push]; exact Nat.lt_succ_of_lt lt⟩
    rw [hH3, upd_ne (by rw [hD]; exact Nat.ne_of_lt lt)]
    exact (f2 b hb).1
  have st3 : tn 0 t3.heap := T.keep _ _ _ st2 fun b _ o e => by rw [hp3]; exact Heap.get?_push_of_some _ e
  have I4 := block_start I3 ok hN f3
  obtain ⟨cl, hcl⟩ : ∃ cl, cl = cellsFrom (t3.heap.objs.size + 1) scope.names (cloFrom X.env.cells scope.names []) := ⟨_, rfl⟩
  rw [← hcl] at I4
  obtain ⟨C, hC⟩ : ∃ C, C = t3.heap.objs.size := ⟨_, rfl⟩
  have E4 : ∀ (ce : Env), ce = compEnvC scope cl C X.env → codeAny (model X.prog X.w) X.A (.compStart (.ListComp elt [⟨tg, iter, ifs, 0⟩] scope pos) 0 (.ref it) (.ref D) ce) (compEnds (model X.prog X.w) X.A X.xe none (EP X pins σ Q) (.ref D) ce) { t3 with heap := pushCells (t3.heap.push { cls := .type "dict", data := .dict #[] }) scope.names } := by
    intro ce hce
    have pg := hg t3 H3 C cl fp
    have pt := ht t3 H3 C cl fp
    have pe := he t3 H3 C cl fp
    rw [← hC] at I4
    rw [← hce] at I4 pg pt pe
    have cL : ce.locals = C := by rw [hce]; rfl
    obtain ⟨t4, h4⟩ : ∃ t4 : Shared, t4 = { t3 with heap := pushCells (t3.heap.push { cls := .type "dict", data := .dict #[] }) scope.names } := ⟨_, rfl⟩
    rw [← h4] at I4 ⊢
    have st4 : tn 0 t4.heap := T.keep _ _ _ st3 fun b _ o e => by rw [h4]; exact pushCells_keeps _ _ _ _ (Heap.get?_push_of_some _ e)
    -- back to the def around
    have back : ∀ {p' : List (Addr × Obj)} {σ' : L2.St} {H' : Hp} {s' : Shared}, Inv (X.blk t3 H3 scope ce fp) p' σ' H' s' → Inv X pins σ H' s' ∧ FpOk X pins H' C ∧ ∃ m, s'.heap.Ns C m := fun {p' σ' H' s'} I' => by
      have z : H' ce.locals = none := I'.free
      obtain ⟨m, hn, _⟩ := I'.loc
      have hn' : s'.heap.Ns ce.locals m := hn
      rw [cL] at z hn'
      exact ⟨I3.call' (ch := fp) I'.os I'.base I'.hok I'.bare fun b hb => let f := (f3 b hb).1; ⟨f.2.2.2.1, f.2.1, f.2.2.2.2.1, f.2.2.2.2.2⟩, I3.fpOk (by rw [hC]; exact Nat.le_refl _) z, m, hn'⟩
    have pass : Passes (L2.CX X.prog X.w) ((X.blk t3 H3 scope ce fp).wish (notedBy (model X.prog X.w) X.A ce (CompFails (model X.prog X.w) X.A X.xe ce))) EX := fun p' σ' H' s1 e s2 I' cx => by
      obtain ⟨B1, B2, m, B3⟩ := back I'.unwish
      have := let_out (scope := scope) (cl := cl) hst hfr tk B1 B2 B3 cx
      rw [← hce] at this
      exact this
    have pe' := pe _ pass
    have at_fp : ∀ {σ' : L2.St} {H' : Hp} {s' : Shared}, Inv (X.blk t3 H3 scope ce fp) [] σ' H' s' → (∀ b ∈ fp, H' b = none) → ∀ b ∈ fp, FpOk (X.blk t3 H3 scope ce fp) [] H' b := fun {σ' H' s'} I' hn b hb => by
      refine ⟨hn b hb, (I'.ok.exf b hb).1, I'.ok.exfs b hb, .inl hb, fun x c e => (I'.ok.exf b hb).2 x c e, fun p hp => ?_⟩
      have hp' : p ∈ ([] : List (Addr × Obj)) ++ [] := hp
      cases hp'
    have loop : codeAny (model X.prog X.w) X.A (.compLoop (.ListComp elt [⟨tg, iter, ifs, 0⟩] scope pos) 0 (.ref it) (.ref D) ce) (compEnds (model X.prog X.w) X.A X.xe none (EP X pins σ Q) (.ref D) ce) t4 := by
      refine compLoop_any (fun n t => ∃ (i : Nat) (H' : Hp), Inv (X.blk t3 H3 scope ce fp) [] (wipe σ (own.map (·.2))) H' t ∧ tn i t.heap ∧ (∀ b ∈ fp, H' b = none) ∧ W i n H') ?_ m0 ⟨0, H3, I4, st4, fun b hb => (f3 b hb).1.1, by rw [hH3]; exact w0⟩
      rintro n t5 ⟨i, H5, I5, st5, n5, w5⟩
      rcases turn i n H5 w5 with ⟨stop, fin⟩ | ⟨go, Nx, hNx, one⟩
      · refine thnF (T.done (X.blk t3 H3 scope ce fp) rfl rfl rfl hc i [] t5 _ H5 (fun _ _ => False) I5 (at_fp I5 n5) st5 stop) fun r t6 ⟨hr, I6⟩ => ?_
        subst hr
        obtain ⟨B1, B2, m, B3⟩ := back I6
        refine ⟨m, by rw [cL]; exact B3, fun h'' sb => ?_⟩
        rw [cL] at sb
        obtain ⟨z0, z1, z2, z3, z4, z5⟩ := B2
        exact ⟨.ref D, H5, B1.turned (t' := t6.toks) (fun b o hb e => (sb.2 b hb).trans e) z0 z1 z3 z4 z5, rfl, fin⟩
      · refine thnF (T.item (X.blk t3 H3 scope ce fp) rfl rfl rfl hc i [] t5 _ H5 (fun _ _ => False) I5 (at_fp I5 n5) st5 go) fun r t6 ⟨u, hr, r6⟩ => ?_
        subst hr
        refine thnF r6 fun _ t7 ⟨x, H7, I7, rx, y7, st7, n7⟩ => ?_
        have P7 := I7.pinned (at_fp I7 n7) (T.obj _ _ st7)
        refine thnF (pg.run _ t7 _ H7 x u _ P7 rx (one x H7 y7)) fun _ t8 ⟨σ8, H8, I8, hw8, q8⟩ => ?_
        refine thnF (pt.run _ t8 σ8 H8 _ I8 q8) fun b t9 ⟨H9, I9, q9⟩ => ?_
        have close : ∀ {t : Shared} {H' : Hp}, Inv (X.blk t3 H3 scope ce fp) ([] ++ pinsAt fp t7.heap) σ8 H' t → Nx H' → ∃ m, m < n ∧ ∃ (i : Nat) (H' : Hp), Inv (X.blk t3 H3 scope ce fp) [] (wipe σ (own.map (·.2))) H' t ∧ tn i t.heap ∧ (∀ b ∈ fp, H' b = none) ∧ W i m H' := fun {t H'} I' nx => by
          obtain ⟨m', lt, w'⟩ := hNx H' nx
          have still : ∀ b ∈ fp, ∀ o, t7.heap.get? b = some o → t.heap.get? b = some o ∧ H' b = none := fun b hb o e => by
            have z := I'.pin (b, o) (List.mem_append_right _ (List.mem_append_right _ (mem_pinsAt hb e)))
            exact ⟨z.1, z.2.1⟩
          refine ⟨m', lt, i + 1, H', (I'.unpinned (pins := [])).weak (by rw [← hw8, wipe_length]) (fun j v e => by rw [← hw8] at e; exact (wipe_some e).1), T.keep _ _ _ st7 fun b hb o e => (still b hb o e).1, fun b hb => ?_, w'⟩
          obtain ⟨o, e, _⟩ := T.obj _ _ st7 b hb
          exact (still b hb o e).2
        by_cases hb : b = true
        · subst hb
          rw [if_pos rfl] at q9 ⊢
          refine wpAny_mono (pe'.run _ t9 σ8 H9 _ (I9.wish _) q9) (fun y t10 r10 => ?_) fun _ _ z => z
          obtain ⟨yv, H10, I10, ry, acc, hD10, hz10, nx⟩ := r10
          exact app_ok (X := X.blk t3 H3 scope ce fp) I10.unwish hD10 hz10 ry fun t11 I11 => close I11 nx
        · obtain rfl : b = false := by simpa using hb
          exact close I9 q9
    exact codeAny_compStart_list loop (T.self X.A 0 _ _ _ st4 loop)
  have fin := E4 _ rfl
  rw [hC, hcl, h3] at fin
  exact fin
end
end LX

namespace IXL
open PySem PySem.Spec PyProof.Rows L2
/-! ### list.index of a number that is there -/
theorem ints_are : ∀ {ns : List Int} {us : List Value}, Vals (ns.map V.int) us → IntsAre us ns
  | [], us, h => by cases h; exact .nil
  | n :: r, us, h => by
    cases h with
    | cons a b =>
      obtain ⟨t, rfl⟩ := a
      exact .cons n t (ints_are b)
theorem mt_indexI {X : Cx} : MtR X "list.index" (fun x vs H Q => ∃ (l : Addr) (ns : List Int) (k : Int), x = .ref l ∧ vs = [.int k] ∧ H l = some (.lst (ns.map V.int)) ∧ k ∈ ns ∧ Q (.int (ns.idxOf k : Nat)) H) := by
  intro pins s σ H x vs v us Q I rx rv h
  obtain ⟨l, ns, k, rfl, rfl, hH, hk, q⟩ := h
  cases rx
  obtain ⟨u, rfl, ru⟩ := rv.one
  obtain ⟨t, rfl⟩ := ru
  obtain ⟨z, its, n, r, hl, e⟩ := I.lstM hH
  refine PySem.SeqAt.list_index_ints (vs := its) ⟨_, e, rfl, ⟨_, rfl⟩⟩ (ints_are r) (by rw [List.length_map] at z; exact z) hk ?_
  exact ⟨.int (ns.idxOf k : Nat), H, I.tok _, ⟨_, rfl⟩, q⟩
/-- a method of a built-in type, in a block -/
theorem pe_bmK {X : Cx} {K : PySem.W.Frag} (hK : X.K = K) {o e : Expr} {es : List Expr} {to : TE} {t : TA} {name : Str} {apos cpos : Pos} {T id : String} {r : V → List V → Hp → VK → Prop} (pa : PlainAttrs T) (slot : Slot T name id) (hty : typeOf (.builtin id) = pure (.type "method_descriptor")) (hm : MtR X id r) (ho : PE X o to) (ha : PA X (e :: es) t)
    (hbase : attributeBase o name X.env (eval o X.env) = eval o X.env := by rfl)
    (hfew : ((backTo cpos (starEach (e :: es) X.env)).all (fun x => !x.1) && (backToKw cpos (keywordEach [] X.env)).all (fun x => x.1.isSome)
      && decide ((e :: es).length + ([] : List Keyword).length + (if ([] : List Keyword).isEmpty then 0 else 1) < 30)) = true := by rfl)
    (hline : (apos.endLine == cpos.line) = true := by rfl) (hs : starEach (e :: es) X.env = (false, eval e X.env) :: starEach es X.env := by rfl) (hplain : (backTo cpos (starEach es X.env)).any (·.1) = false := by rfl) :
    PE X (.Call (.Attribute o name apos) (e :: es) [] cpos) (tBM K T r to t) := hK ▸ pe_bm pa slot hty hm ho ha hbase hfew hline hs hplain
end IXL

namespace RT
open PySem PySem.Spec PyProof.Rows L2
/-! ### t[:0:-1] of a tuple of one to three items: the items behind the first one, backwards -/
section
variable {prog : Program} {w : World} {A : Around} {E : Value → Shared → Prop} {s : Shared}
theorem part_of {v : Value} {o : Option Int} {Q : Option Int → Shared → Prop} (p : IsPart v o) (h : Q o s) : wpAny (model prog w) A (Builtin.Slice.slicePartIndex v) Q E s := HT.slicePart_ p h
theorem applied {sl : Addr} {vl vu vs : Value} {n : Nat} {Q : Int × Int × Nat → Shared → Prop} (hs : s.heap.IsSliceOf sl vl vu vs) (pl : IsPart vl none) (pu : IsPart vu (some 0)) (ps : IsPart vs (some (-1))) (h0 : 1 ≤ n) (h3 : n ≤ 3)
    (h : Q ((n : Int) - 1, -1, n - 1) s) : wpAny (model prog w) A (Builtin.Slice.sliceApplied (.ref sl) (pure (n : Int))) Q E s := by
  obtain ⟨os, hos, hcs, hds⟩ := id hs
  unfold Builtin.Slice.sliceApplied Builtin.Slice.sliceFields
  refine wpAny_bind (wpAny_bind (wpAny_field hos hds (x := vl) rfl (wpAny_bind (wpAny_field hos hds (x := vu) rfl (wpAny_bind (wpAny_field hos hds (x := vs) rfl (wpAny_pure ?_)))))))
  refine wpAny_bind (part_of ps ?_)
  show wpAny _ _ (if ((-1 : Int) == 0) = true then _ else _) _ _ s
  rw [if_neg (by decide)]
  refine wpAny_bind (part_of pl (wpAny_bind (part_of pu (wpAny_bind (wpAny_pure ?_)))))
  have hn : n = 1 ∨ n = 2 ∨ n = 3 := by omega
  rcases hn with rfl | rfl | rfl
  · exact wpAny_pure h
  · exact wpAny_pure h
  · exact wpAny_pure h
theorem backwards {its : List Value} (h0 : 1 ≤ its.length) (h3 : its.length ≤ 3) : ((List.range (its.toArray.size - 1)).filterMap fun (k : Nat) => its.toArray[(((its.toArray.size : Int) - 1) + (k : Int) * (-1)).toNat]?).toArray = (its.drop 1).reverse.toArray := by
  rcases its with _ | ⟨a, _ | ⟨b, _ | ⟨c, _ | ⟨d, r⟩⟩⟩⟩
  · exact absurd h0 (by simp)
  · simp
  · simp [List.range_succ]
  · simp [List.range_succ]
  · simp only [List.length_cons] at h3
    omega
theorem item_back {t sl : Addr} {its : List Value} {vl vu vs : Value} {Q : Value → Shared → Prop} (ht : IsTup s.heap t its.toArray) (hs : s.heap.IsSliceOf sl vl vu vs) (pl : IsPart vl none) (pu : IsPart vu (some 0)) (ps : IsPart vs (some (-1)))
    (h0 : 1 ≤ its.length) (h3 : its.length ≤ 3) (h : Q (.ref s.heap.objs.size) { s with heap := s.heap.push { cls := .type "tuple", data := .seq (its.drop 1).reverse.toArray } }) : wpAny (model prog w) A (getItem (.ref t) (.ref sl)) Q E s := by
  obtain ⟨os, hos, hcs, hds⟩ := id hs
  have hTs : s.TypeIs (.ref sl) "slice" := ⟨os, hos, hcs⟩
  unfold getItem
  try with_reducible refine wpAny_holding ?_
  first | refine wpAny_bind (wpAny_pure ?_) | skip
  refine wpAny_bind (wpAny_sequenceKey ht.typeIs (by decide) ?_)
  refine wpAny_bind (wpAny_callSpecial?_slot (name := Str.ofString "__getitem__") ht.typeIs PyProof.Rows.slot_tuple_getitem
    (wpAny_call_entry PyProof.Rows.slot_tuple_getitem ht.typeIs entry_tuple_getitem ?_ (args_tuple_getitem _ _)))
  show wpAny _ _ (Builtin.Tuple.tupleItemsOf (.ref t) >>= _) _ _ s
  refine wpAny_bind (tupleItemsOf_ ht ?_)
  refine wpAny_bind (wpAny_typeOf hTs ?_)
  rw [if_pos (by decide)]
  refine wpAny_bind (applied (n := its.toArray.size) hs pl pu ps (by simpa using h0) (by simpa using h3) ?_)
  have hno : ∀ k : Nat, ¬ ((((its.toArray.size : Int) - 1) == 0 && (-1 : Int) == 1 && k == its.toArray.size) = true) := fun k q => by
    rw [Bool.and_eq_true, Bool.and_eq_true] at q
    exact absurd q.1.2 (by decide)
  show wpAny _ _ (if (((its.toArray.size : Int) - 1) == 0 && (-1 : Int) == 1 && (its.toArray.size - 1) == its.toArray.size) = true then _ else _) _ _ s
  rw [if_neg (hno _)]
  rw [backwards h0 h3]
  have hz : sizeOk (.seq (its.drop 1).reverse.toArray) := by
    show (its.drop 1).reverse.toArray.size ≤ sizeLine
    rw [List.size_toArray, List.length_reverse, List.length_drop, sizeLine_eq]
    omega
  first
    | exact wpAny_bind (m := Builtin.Tuple.tupleExact _) (wpAny_newObj_type (wpAny_pure ⟨_, rfl, wpAny_pure h⟩) hz)
    | exact wpAny_bind (m := Builtin.Tuple.tupleExact _) (wpAny_newObj_type (wpAny_bind (wpAny_pure (wpAny_pure ⟨_, rfl, wpAny_pure h⟩))) hz)
    | exact wpAny_bind (wpAny_bind (m := Builtin.Tuple.tupleExact _) (wpAny_newObj_type (wpAny_pure (wpAny_pure ⟨_, rfl, wpAny_pure h⟩)) hz))
    | exact wpAny_bind (wpAny_bind (m := Builtin.Tuple.tupleExact _) (wpAny_newObj_type (wpAny_pure ⟨_, rfl, wpAny_pure h⟩) hz))
end
section
variable {X : Cx} {e : Expr} {te : TE} {k0 k : Nat} {p0 p1 p2 p3 pos : Pos}
def tTail (K : PySem.W.Frag) (te : TE) : TE := fun σ H Q => te σ H fun x H1 => ∃ a xs, x = .ref a ∧ SqT K H1 a xs ∧ 1 ≤ xs.length ∧ xs.length ≤ 3 ∧ ∀ p, H1 p = none → Q (.ref p) (upd H1 p (.tup (xs.drop 1).reverse))
theorem pe_tail (he : PE X e te) : PE X (.Subscript e (.Slice none (some (.Constant (.int 0) k0 p0)) (some (.UnaryOp .USub (.Constant (.int 1) k p1) p2)) p3) pos) (tTail X.K te) := by
  refine ⟨fun pins s σ H Q I h => ?_⟩
  refine Subscript_ (thn (he.run pins s σ H _ I h) fun v s1 ⟨x, H1, I1, r1, q1⟩ => ?_)
  obtain ⟨a, xs, rfl, hx, h0, h3, q⟩ := q1
  cases r1
  have hst : PO X (some (.UnaryOp .USub (.Constant (.int 1) k p1) p2)) (tPart (tUn (rU fun i => .int (-i)) (tC (.int 1)))) := po_some (pe_un un_neg pe_int)
  have hup : PO X (some (.Constant (.int 0) k0 p0)) (tPart (tC (.int 0))) := po_some pe_int
  refine wpAny_Slice (thn (po_none.run pins s1 σ H1 (fun o H2 => o = none ∧ H2 = H1) I1 ⟨rfl, rfl⟩) fun vl s2 ⟨l, H2, I2, pl, el, e2⟩ => ?_)
  subst el e2
  refine thn (hup.run pins s2 σ H2 (fun o H3 => o = some 0 ∧ H3 = H2) I2 ⟨0, rfl, rfl, rfl⟩) fun vu s3 ⟨u, H3, I3, pu, eu, e3⟩ => ?_
  subst eu e3
  refine thn (hst.run pins s3 σ H3 (fun o H4 => o = some (-1) ∧ H4 = H3) I3 ⟨1, rfl, -1, rfl, rfl, rfl⟩) fun vs s4 ⟨o, H4, I4, ps, eo, e4⟩ => ?_
  subst eo e4
  have I5 : Inv X pins σ H4 { s4 with heap := s4.heap.push { cls := .type "slice", data := .fields #[vl, vu, vs] } } := I4.kept (t' := s4.toks) fun b ob q => Heap.get?_push_of_some _ q
  obtain ⟨its, r, ht, hz⟩ := I5.tuple hx
  have hlen := r.length
  show wpAny (model X.prog X.w) X.A (subscriptTail e (.Slice none (some (.Constant (.int 0) k0 p0)) (some (.UnaryOp .USub (.Constant (.int 1) k p1) p2)) p3) (.ref a) (.ref s4.heap.objs.size)) (EP X pins σ Q) X.xe { s4 with heap := s4.heap.push { cls := .type "slice", data := .fields #[vl, vu, vs] } }
  refine tail_any (ops := [.ref a, .ref s4.heap.objs.size]) ht.typeIs (PyProof.Rows.slot_tuple_getitem.lookup) ?_ (by with_unfolding_all rfl)
  refine item_back ht (Heap.IsSliceOf.new _ vl vu vs) pl pu ps (by omega) (by omega) ?_
  refine ⟨.ref _, _, I5.laid (t' := s4.toks) (o := .tup (xs.drop 1).reverse) (fun b ob q => Heap.get?_push_of_some _ q) (Nat.le_refl _) ?_, rfl, q _ (I5.hok.fresh (Nat.le_refl _))⟩
  exact ⟨by rw [List.length_reverse, List.length_drop]; omega, _, (r.drop 1).reverse, IsTup.new _ _⟩
end
end RT

namespace ET
open PySem PySem.Spec PyProof.Rows L2
/-- xs.extend(t), t a tuple -/
theorem ext_tup (l : Addr) (items : Array Value) (n : Nat) (b : Addr) (items2 : Array Value) (h0 : ¬ (!items.isEmpty && Builtin.List.listTooLong (items.size + items2.size)) = true) (h1 : items.size ≤ sizeLine) (h2 : items.size + items2.size ≤ sizeLine + 1) :
    Meets (Builtin.«list.extend» ⟨[.ref l, .ref b], []⟩) (fun _ R s => s.heap.get? l = some { cls := .type "list", dict := none, data := .seq items n, slots := #[] } ∧ (∃ o m, s.heap.get? b = some o ∧ o.cls = .type "tuple" ∧ o.data = .seq items2 m) ∧ R (.ok (.ret Value.none)) { s with heap := s.heap.update l (Obj.mapSeq fun x => x ++ items2) }) := by
  intro prog w A R s h
  obtain ⟨hS, ⟨o, m, ho, hc, hd⟩, hR⟩ := h
  show wpAny _ A.in1 (Builtin.List.listExtendWith (.ref l) (.ref b) .none) _ _ s
  unfold Builtin.List.listExtendWith
  refine wpAny_bind (wpAny_typeOf ⟨o, ho, hc⟩ ?_)
  have e1 : (Builtin.List.listSameRef (.ref l) (.ref b) || Value.type "tuple" == Value.type "list" || Value.type "tuple" == Value.type "tuple") = true := by simp
  simp only [e1, if_true]
  refine wpAny_bind ?_
  unfold Builtin.List.listItems
  refine wpAny_bind (wpAny_seqItems ho hd (wpAny_pure ?_))
  refine wpAny_bind ?_
  refine wpAny_bind (wpAny_seqItems hS rfl (wpAny_pure ?_))
  rw [if_neg h0]
  show wpAny _ A.in1 (updateSeq l (· ++ items2) >>= fun _ => PySem.ret .none) _ _ s
  have hz' : (items ++ items2).size ≤ sizeLine + 1 := by rw [Array.size_append]; exact h2
  refine wpAny_bind (wpAny_updateSeq hS rfl (hz := h1) (_hz' := hz') ?_)
  exact wpAny_pure hR
section
variable {X : Cx}
def rExtT (K : PySem.W.Frag) : V → List V → Hp → VK → Prop := fun x vs H Q => ∃ l b xs zs, x = .ref l ∧ vs = [.ref b] ∧ H l = some (.lst xs) ∧ SqT K H b zs ∧ xs.length + zs.length ≤ sizeLine ∧ Q .non (upd H l (.lst (xs ++ zs)))
theorem mt_extT : MtM X "list.extend" (rExtT X.K) := by
  intro pins s σ H x vs v us Q I rx rv h
  obtain ⟨l, b, xs, zs, rfl, rfl, hH, hB, hz, q⟩ := h
  cases rx
  obtain ⟨u, rfl, ru⟩ := rv.one
  cases ru
  obtain ⟨z, its, n, r, hl, e⟩ := I.lstM hH
  obtain ⟨its2, r2, ⟨o, ho, hc, m, hd⟩, z2⟩ := I.tuple hB
  have hl2 := r2.length
  have hsz : its.toArray.size + its2.toArray.size ≤ sizeLine := by rw [List.size_toArray, List.size_toArray]; omega
  have hlong : ¬ (!its.toArray.isEmpty && Builtin.List.listTooLong (its.toArray.size + its2.toArray.size)) = true := by
    rw [notLongL hsz, Bool.and_false]
    exact Bool.false_ne_true
  refine call_meets F.slot_list_extend ⟨_, e, rfl⟩ F.entry_list_extend (F.args_list_extend_2 _ _)
    (ext_tup l its.toArray n b its2.toArray hlong (by rw [List.size_toArray]; omega) (by omega)) ⟨e, ⟨o, m, ho, hc, hd⟩, ?_⟩
  refine ⟨.non, _, I.lset (its' := its ++ its2) hH e (by simp) (r.append r2) ?_, rfl, q⟩
  rw [List.length_append]
  omega
end
end ET

/-! HQ0: heaps of pairs of numbers as lists. Own work. -/
namespace HQ
structure Hi where
  a : Nat
  x : Int
  y : Int
def lt (p q : Hi) : Prop := p.x < q.x ∨ (p.x = q.x ∧ p.y < q.y)
instance (p q : Hi) : Decidable (lt p q) := by unfold lt; exact inferInstance
theorem lt_asym {p q : Hi} (h : lt p q) : ¬ lt q p := by unfold lt at *; omega
theorem nlt_trans {p q r : Hi} (h : ¬ lt p q) (k : ¬ lt q r) : ¬ lt p r := by unfold lt at *; omega
theorem lt_nlt {p q r : Hi} (h : ¬ lt p q) (k : lt r q) : ¬ lt p r := by unfold lt at *; omega
theorem nlt_self (p : Hi) : ¬ lt p p := by unfold lt; omega
/-- no item is less than its parent -/
def Ord (es : List Hi) : Prop := ∀ (i : Nat) (p q : Hi), 0 < i → es[i]? = some p → es[(i - 1) / 2]? = some q → ¬ lt p q
/-- but perhaps the one at k, whose children are no less than its parent -/
def Up (es : List Hi) (k : Nat) : Prop := (∀ (i : Nat) (p q : Hi), 0 < i → i ≠ k → es[i]? = some p → es[(i - 1) / 2]? = some q → ¬ lt p q) ∧ ∀ (i : Nat) (p q : Hi), 0 < k → 0 < i → (i - 1) / 2 = k → es[i]? = some p → es[(k - 1) / 2]? = some q → ¬ lt p q
def Dn (es : List Hi) (k : Nat) : Prop := (∀ (i : Nat) (p q : Hi), 0 < i → i ≠ k → (i - 1) / 2 ≠ k → es[i]? = some p → es[(i - 1) / 2]? = some q → ¬ lt p q) ∧ ∀ (i : Nat) (p q : Hi), 0 < k → 0 < i → (i - 1) / 2 = k → es[i]? = some p → es[(k - 1) / 2]? = some q → ¬ lt p q
theorem sw_get {es : List Hi} {i j k : Nat} {p q : Hi} (hi : es[i]? = some p) (hj : es[j]? = some q) (n : i ≠ j) : ((es.set i q).set j p)[k]? = if k = j then some p else if k = i then some q else es[k]? := by
  have li := (List.getElem?_eq_some_iff.mp hi).1
  have lj := (List.getElem?_eq_some_iff.mp hj).1
  rw [List.getElem?_set]
  by_cases c : j = k
  · rw [if_pos c, if_pos c.symm]; simp only [List.length_set]; rw [if_pos (by omega)]
  · rw [if_neg c, if_neg (fun z => c z.symm), List.getElem?_set]
    by_cases d : i = k
    · rw [if_pos d, if_pos d.symm, if_pos (by omega)]
    · rw [if_neg d, if_neg (fun z => d z.symm)]
theorem sw_perm {es : List Hi} {i j : Nat} {p q : Hi} (hi : es[i]? = some p) (hj : es[j]? = some q) : ((es.set i q).set j p).Perm es := by
  obtain ⟨li, ei⟩ := List.getElem?_eq_some_iff.mp hi
  obtain ⟨lj, ej⟩ := List.getElem?_eq_some_iff.mp hj
  subst ei ej
  exact List.set_set_perm li lj
theorem Up.step {es : List Hi} {k : Nat} {p q : Hi} (h : Up es k) (h0 : 0 < k) (hp : es[k]? = some p) (hq : es[(k - 1) / 2]? = some q) (c : lt p q) : Up ((es.set k q).set ((k - 1) / 2) p) ((k - 1) / 2) := by
  have nk : k ≠ (k - 1) / 2 := by omega
  refine ⟨fun i u v i0 ni eu ev => ?_, fun i u v g0 i0 ei eu ev => ?_⟩
  · rw [sw_get hp hq nk] at eu ev
    rw [if_neg ni] at eu
    by_cases c1 : i = k
    · subst c1
      rw [if_pos rfl] at eu ev
      cases eu; cases ev
      exact lt_asym c
    · rw [if_neg c1] at eu
      by_cases c2 : (i - 1) / 2 = (k - 1) / 2
      · rw [if_pos c2] at ev
        cases ev
        have := h.1 i u q i0 c1 eu (by rw [c2]; exact hq)
        exact lt_nlt this c
      · rw [if_neg c2] at ev
        by_cases c3 : (i - 1) / 2 = k
        · rw [if_pos c3] at ev
          cases ev
          exact h.2 i u q h0 i0 c3 eu hq
        · rw [if_neg c3] at ev
          exact h.1 i u v i0 c1 eu ev
  · rw [sw_get hp hq nk] at eu ev
    have n1 : ((k - 1) / 2 - 1) / 2 ≠ (k - 1) / 2 := by omega
    have n2 : ((k - 1) / 2 - 1) / 2 ≠ k := by omega
    rw [if_neg n1, if_neg n2] at ev
    have n3 : i ≠ (k - 1) / 2 := by omega
    rw [if_neg n3] at eu
    have pq : ¬ lt q v := h.1 _ _ _ g0 (fun z => nk z.symm) hq ev
    by_cases c1 : i = k
    · rw [if_pos c1] at eu
      cases eu
      exact pq
    · rw [if_neg c1] at eu
      exact nlt_trans (h.1 i u q i0 c1 eu (by rw [ei]; exact hq)) pq
theorem Up.done {es : List Hi} {k : Nat} (h : Up es k) (c : ∀ p q, 0 < k → es[k]? = some p → es[(k - 1) / 2]? = some q → ¬ lt p q) : Ord es := fun i p q i0 hp hq => by
  by_cases e : i = k
  · subst e; exact c p q i0 hp hq
  · exact h.1 i p q i0 e hp hq
theorem Dn.step {es : List Hi} {k c : Nat} {p q : Hi} (h : Dn es k) (c0 : 0 < c) (hc : (c - 1) / 2 = k) (hp : es[c]? = some p) (hq : es[k]? = some q) (hs : ∀ i s, 0 < i → (i - 1) / 2 = k → i ≠ c → es[i]? = some s → ¬ lt s p) : Dn ((es.set c q).set k p) c := by
  have nk : c ≠ k := by omega
  refine ⟨fun i u v i0 ni ni2 eu ev => ?_, fun i u v g0 i0 ei eu ev => ?_⟩
  · rw [sw_get hp hq nk] at eu ev
    rw [if_neg ni] at eu
    rw [if_neg ni2] at ev
    by_cases c1 : i = k
    · subst c1
      rw [if_pos rfl] at eu
      cases eu
      rw [if_neg (by omega)] at ev
      exact h.2 c p v i0 c0 hc hp ev
    · rw [if_neg c1] at eu
      by_cases c2 : (i - 1) / 2 = k
      · rw [if_pos c2] at ev
        cases ev
        exact hs i u i0 c2 ni eu
      · rw [if_neg c2] at ev
        exact h.1 i u v i0 c1 c2 eu ev
  · rw [sw_get hp hq nk] at eu ev
    rw [if_pos hc] at ev
    cases ev
    have n3 : i ≠ c := by omega
    have n4 : i ≠ k := by omega
    rw [if_neg n4, if_neg n3] at eu
    exact h.1 i u p i0 n4 (by omega) eu (by rw [ei]; exact hp)
theorem Dn.done {es : List Hi} {k : Nat} (h : Dn es k) (c : es.length / 2 ≤ k) : Up es k := by
  refine ⟨fun i p q i0 n hp hq => h.1 i p q i0 n (fun z => ?_) hp hq, h.2⟩
  have := (List.getElem?_eq_some_iff.mp hp).1
  omega
theorem Ord.push {es : List Hi} (h : Ord es) (e : Hi) : Up (es ++ [e]) es.length := by
  refine ⟨fun i p q i0 n hp hq => ?_, fun i p q k0 i0 hk hp hq => ?_⟩
  · have l := (List.getElem?_eq_some_iff.mp hp).1
    rw [List.length_append, List.length_singleton] at l
    rw [List.getElem?_append_left (by omega)] at hp hq
    exact h i p q i0 hp hq
  · have l := (List.getElem?_eq_some_iff.mp hp).1
    rw [List.length_append, List.length_singleton] at l
    omega
theorem Ord.popped {es : List Hi} {e : Hi} (h : Ord es) : Dn (es.dropLast.set 0 e) 0 := by
  refine ⟨fun i p q i0 n n2 hp hq => ?_, fun i p q k0 => absurd k0 (by omega)⟩
  rw [List.getElem?_set, if_neg (fun z => n z.symm)] at hp
  rw [List.getElem?_set, if_neg (fun z => n2 z.symm)] at hq
  have l := (List.getElem?_eq_some_iff.mp hp).1
  rw [List.length_dropLast] at l
  rw [List.getElem?_dropLast, if_pos (by omega)] at hp hq
  exact h i p q i0 hp hq
theorem Ord.min {es : List Hi} {r : Hi} (h : Ord es) (hr : es[0]? = some r) : ∀ (n i : Nat) (p : Hi), i ≤ n → es[i]? = some p → ¬ lt p r := by
  intro n
  induction n with
  | zero =>
    intro i p hi hp
    obtain rfl : i = 0 := by omega
    rw [hr] at hp; cases hp
    exact nlt_self _
  | succ n ih =>
    intro i p hi hp
    by_cases c : i = 0
    · exact ih i p (by omega) hp
    · have l := (List.getElem?_eq_some_iff.mp hp).1
      obtain ⟨q, hq⟩ : ∃ q, es[(i - 1) / 2]? = some q := ⟨_, List.getElem?_eq_getElem (by omega)⟩
      exact nlt_trans (h i p q (by omega) hp hq) (ih _ q (by omega) hq)
theorem Ord.least {es : List Hi} {r p : Hi} (h : Ord es) (hr : es[0]? = some r) (hp : p ∈ es) : r.x ≤ p.x := by
  obtain ⟨i, l, e⟩ := List.mem_iff_getElem.mp hp
  have := h.min hr i i p (Nat.le_refl _) (by rw [List.getElem?_eq_getElem l, e])
  unfold lt at this
  omega
theorem Ord.nil : Ord [] := fun i p q _ hp _ => by simp at hp
theorem pop_perm {es : List Hi} {r e : Hi} (hr : es[0]? = some r) (he : es[es.length - 1]? = some e) (hl : 1 < es.length) : (r :: es.dropLast.set 0 e).Perm es := by
  match es, hr, he, hl with
  | a :: b :: l, hr, he, _ =>
    obtain rfl : a = r := by simpa using hr
    have e2 : (a :: b :: l).dropLast = a :: (b :: l).dropLast := rfl
    rw [e2, List.set_cons_zero]
    have hb : (b :: l).dropLast ++ [e] = b :: l := by
      have : (b :: l).getLast (by simp) = e := by
        rw [List.getLast_eq_getElem]
        have := (List.getElem?_eq_some_iff.mp he).2
        simpa using this
      rw [← this]; exact List.dropLast_concat_getLast (by simp)
    have := List.perm_append_singleton e (b :: l).dropLast
    exact (this.symm.trans (by rw [hb])).cons a
end HQ

/-! HQ1: heappush and heappop of lists of pairs of numbers, over the hand layer. Own work. -/
namespace HQ
open PySem PySem.Spec PyProof.Rows L2
theorem e_push : entryFor table "_heapq.heappush" = some Builtin.«_heapq.heappush» := entryFor_of_tree (by kernel_rfl)
theorem e_pop : entryFor table "_heapq.heappop" = some Builtin.«_heapq.heappop» := entryFor_of_tree (by kernel_rfl)
theorem e_sift : entryFor table "_heapq.heapify.sift" = some Builtin.«_heapq.heapify.sift» := entryFor_of_tree (by kernel_rfl)
theorem k_push : builtinKind "_heapq.heappush" = none := by kernel_rfl
theorem k_pop : builtinKind "_heapq.heappop" = none := by kernel_rfl
theorem p_push : plainId "_heapq.heappush" = true := by decide +kernel
theorem p_pop : plainId "_heapq.heappop" = true := by decide +kernel
theorem p_sift : plainId "_heapq.heapify.sift" = true := by decide +kernel
theorem a_push (a b : Value) : argsOk "_heapq.heappush" ⟨[a, b], []⟩ := by unfold argsOk; kernel_rfl
theorem a_pop (a : Value) : argsOk "_heapq.heappop" ⟨[a], []⟩ := by unfold argsOk; kernel_rfl
/-- what is asked of the end of a built-in function's code -/
def Rv (Q : Value → Shared → Prop) (E : Value → Shared → Prop) : Result → Shared → Prop := fun r s' => match r with
  | .ok (.ret v) => Q v s'
  | .ok _ => False
  | .error e => E e s'
theorem call_fn {prog : Program} {w : World} {A : Around} {E : Value → Shared → Prop} {s : Shared} {id : String} {b : Builtin} {args : List Value} {Q : Value → Shared → Prop} (hk : builtinKind id = none) (hp : plainId id = true) (hb : entryFor table id = some b) (ha : argsOk id ⟨args, []⟩)
    (hc : wpAny (model prog w) A.in1 (b ⟨args, []⟩) (fun fin s' => match fin with | .done f => Rv Q E (.ok f) s' | .again c' => c'.quiet = true ∧ codeAny (model prog w) A c' (Rv Q E) s') E s) : wpAny (model prog w) A (call (.builtin id) args) Q E s := by
  refine wpAny_call (codeAny_call_builtin (R := Rv Q E) hp hb ?_)
  have go := wpAny_mono hc (E' := fun e s' => Rv Q E (.error e) s') (fun fin s' h' => h') fun _ _ h' => h'
  have e0 : checkBuiltinCall id ⟨args, []⟩ = pure () := by
    cases hsig : Manifest.signature? id with
    | none => simp only [checkBuiltinCall, hk, hsig]
    | some sig =>
      have z := ha
      unfold argsOk at z
      rw [hsig] at z
      simp only [checkBuiltinCall, hk, hsig]
      exact z
  rw [e0]
  exact wpAny_pure go
section
variable {X : Cx} {pins : List (Addr × Obj)} {σ : L2.St} {H : Hp} {p : Addr}
def refs (es : List Hi) : List V := es.map fun e => V.ref e.a
def HiAt (H : Hp) (es : List Hi) : Prop := ∀ e ∈ es, H e.a = some (.tup [.int e.x, .int e.y])
theorem refs_get {es : List Hi} {i : Nat} {e : Hi} (h : es[i]? = some e) : (refs es)[i]? = some (.ref e.a) := by unfold refs; rw [List.getElem?_map, h] <;> rfl
/-- two pairs compared -/
theorem less_ok {es : List Hi} {e f : Hi} {s : Shared} {A : Around} {E : Value → Shared → Prop} {Q : Value → Shared → Prop} (I : Inv X pins σ (upd H p (.lst (refs es))) s) (hA : A.units < cLine) (he : H e.a = some (.tup [.int e.x, .int e.y])) (hf : H f.a = some (.tup [.int f.x, .int f.y])) (hp : ∃ xs, H p = some (.lst xs))
    (q : Q (.bool (decide (lt e f))) s) : wpAny (model X.prog X.w) A (richCompare .Lt (.ref e.a) (.ref f.a)) Q E s := by
  obtain ⟨xs, hp⟩ := hp
  have ne : ∀ {z : Addr} {u v : V}, H z = some (.tup [u, v]) → z ≠ p := fun {z u v} h k => by rw [k, hp] at h; cases h
  have t1 : SqT X.K (upd H p (.lst (refs es))) e.a [.int e.x, .int e.y] := .inl (.inl (by rw [upd_ne (ne he)]; exact he))
  have t2 : SqT X.K (upd H p (.lst (refs es))) f.a [.int f.x, .int f.y] := .inl (.inl (by rw [upd_ne (ne hf)]; exact hf))
  obtain ⟨its, r1, p1, _⟩ := I.tuple t1
  obtain ⟨its2, r2, p2, _⟩ := I.tuple t2
  refine (HT.lt_tupInts (ns := [e.x, e.y]) (ms := [f.x, f.y]) p1 p2 (intsAre_of r1) (intsAre_of r2) hA ?_ : wpAny (model X.prog X.w) A (compareOp .Lt (.ref e.a) (.ref f.a)) Q E s)
  have : HT.lexLt [e.x, e.y] [f.x, f.y] = decide (lt e f) := by
    rw [HT.lexLt_cons, HT.lexLt_cons, HT.lexLt_nil_nil]
    unfold lt
    by_cases c : e.x = f.x
    · rw [if_pos c]
      by_cases d : e.y = f.y
      · rw [if_pos d]; exact (decide_eq_false (by omega)).symm
      · rw [if_neg d]; exact decide_eq_decide.mpr (by omega)
    · rw [if_neg c]; exact decide_eq_decide.mpr (by omega)
  rw [this]
  exact q
def itT (a : Addr) : Sem (Array Value) := do
  let some its ← seqItems? (.ref a) | unsupported "internal:_heapq"
  return its
def atT (xs : Array Value) (i : Nat) : Sem Value := match xs[i]? with | some v => pure v | none => unsupported "internal:_heapq.index"
def swT (a : Addr) (i j : Nat) : Sem Unit := itT a >>= fun xs => atT xs i >>= fun x => atT xs j >>= fun y => updateSeq a fun zs => (zs.setIfInBounds i y).setIfInBounds j x
theorem it_ok {M : Model} {A : Around} {E : Value → Shared → Prop} {s : Shared} {a : Addr} {o : Obj} {its : Array Value} {n : Nat} {Q : Array Value → Shared → Prop} (e : s.heap.get? a = some o) (d : o.data = .seq its n) (q : Q its s) : wpAny M A (itT a) Q E s := wpAny_bind (wpAny_seqItems e d (wpAny_pure q))
theorem at_ok {M : Model} {A : Around} {E : Value → Shared → Prop} {s : Shared} {xs : Array Value} {i : Nat} {v : Value} {Q : Value → Shared → Prop} (h : xs[i]? = some v) (q : Q v s) : wpAny M A (atT xs i) Q E s := by
  unfold atT
  rw [h]
  exact wpAny_pure q
theorem get_its {es : List Hi} {its : List Value} {i : Nat} {e : Hi} (r : Vals (refs es) its) (h : es[i]? = some e) : its.toArray[i]? = some (.ref e.a) := by
  obtain ⟨u, hu, ru⟩ := r.get (refs_get h)
  cases ru
  rw [List.getElem?_toArray]
  exact hu
/-- two items change places -/
theorem sw_ok {xs : List V} {A : Around} {E : Value → Shared → Prop} {Q : Unit → Shared → Prop} {es : List Hi} {s : Shared} {i j : Nat} {e f : Hi} (hH : H p = some (.lst xs)) (I : Inv X pins σ (upd H p (.lst (refs es))) s) (he : es[i]? = some e) (hf : es[j]? = some f)
    (q : ∀ s', Inv X pins σ (upd H p (.lst (refs ((es.set i f).set j e)))) s' → Q () s') : wpAny (model X.prog X.w) A (swT p i j) Q E s := by
  obtain ⟨z, its, m, r, el, g⟩ := I.lstM upd_same
  refine wpAny_bind (it_ok g rfl (wpAny_bind (at_ok (get_its r he) (wpAny_bind (at_ok (get_its r hf) ?_)))))
  have rs : Vals (refs ((es.set i f).set j e)) ((its.set i (.ref f.a)).set j (.ref e.a)) := by
    unfold refs at r ⊢
    rw [List.map_set, List.map_set]
    exact Vals.set (show RelV (.ref e.a) (.ref e.a) from rfl) j (Vals.set (show RelV (.ref f.a) (.ref f.a) from rfl) i r)
  have lz : ((es.set i f).set j e).length = es.length := by simp
  have I2 := I.lset (f := fun zs => (zs.setIfInBounds i (.ref f.a)).setIfInBounds j (.ref e.a)) (t' := s.toks) upd_same g (by simp) rs (by unfold refs at z ⊢; rw [List.length_map] at z ⊢; rw [lz]; exact z)
  rw [upd_upd] at I2
  refine wpAny_updateSeq g rfl (q _ I2) ?_ ?_
  · rw [List.size_toArray, ← el]; exact z
  · simp; omega
/-- the sift upwards -/
theorem up_run {xs : List V} {R : Result → Shared → Prop} (hA : X.A.in1.units < cLine) (hH : H p = some (.lst xs)) {res : Value} : ∀ (n k : Nat) (es : List Hi) (s : Shared), k ≤ n → k < es.length → Inv X pins σ (upd H p (.lst (refs es))) s → HiAt H es → Up es k →
    (∀ (es' : List Hi) (s' : Shared), es'.Perm es → Ord es' → Inv X pins σ (upd H p (.lst (refs es'))) s' → R (.ok (.ret res)) s') →
    codeAny (model X.prog X.w) X.A (.builtin "_heapq.heapify.sift" ⟨[.ref p, .bool false, .bool false, rawInt k, rawInt 0, res, rawInt (-1)], []⟩) R s := by
  intro n
  induction n with
  | zero =>
    intro k es s hk hl I ha hu q
    obtain rfl : k = 0 := by omega
    refine codeAny_builtin e_sift ?_
    rw [Around.under_plainId p_sift _]
    obtain ⟨z, its, m, r, el, e⟩ := I.lstM upd_same
    refine wpAny_bind (it_ok e rfl ?_)
    exact wpAny_pure (q es s (List.Perm.refl _) (hu.done fun _ _ h0 => absurd h0 (by omega)) I)
  | succ n ih =>
    intro k es s hk hl I ha hu q
    refine codeAny_builtin e_sift ?_
    rw [Around.under_plainId p_sift _]
    obtain ⟨z, its, m, r, el, g⟩ := I.lstM upd_same
    refine wpAny_bind (it_ok g rfl ?_)
    by_cases k0 : k = 0
    · subst k0
      exact wpAny_pure (q es s (List.Perm.refl _) (hu.done fun _ _ h0 => absurd h0 (by omega)) I)
    have kp : k > 0 := by omega
    obtain ⟨e, he⟩ : ∃ e, es[k]? = some e := ⟨_, List.getElem?_eq_getElem hl⟩
    obtain ⟨f, hf⟩ : ∃ f, es[(k - 1) / 2]? = some f := ⟨_, List.getElem?_eq_getElem (by omega)⟩
    show wpAny _ _ (ite (k > 0) _ _) _ _ _
    rw [if_pos kp]
    refine wpAny_bind (at_ok (get_its r he) (wpAny_bind (at_ok (get_its r hf) ?_)))
    refine wpAny_bind ?_
    refine wpAny_bind (wpAny_holding (wpAny_bind (less_ok I hA (ha e (List.mem_of_getElem? he)) (ha f (List.mem_of_getElem? hf)) ⟨_, hH⟩ (wpAny_pure ?_))))
    refine wpAny_bind (it_ok g rfl ?_)
    rw [if_neg (by simp)]
    refine wpAny_pure ?_
    by_cases c : lt e f
    · rw [decide_eq_true c]
      refine wpAny_bind (sw_ok hH I hf he fun s' I' => ?_)
      have pm := sw_perm hf he
      have nk : k ≠ (k - 1) / 2 := by omega
      have e1 : (es.set ((k - 1) / 2) e).set k f = (es.set k f).set ((k - 1) / 2) e := List.set_comm _ _ (fun z => nk z.symm)
      refine wpAny_pure (a := PySem.Fin.again (.builtin "_heapq.heapify.sift" ⟨[.ref p, .bool false, .bool false, rawInt ((k - 1) / 2 : Nat), rawInt 0, res, rawInt (-1)], []⟩)) ⟨plainId_quiet p_sift _, ih ((k - 1) / 2) ((es.set ((k - 1) / 2) e).set k f) s' (by omega) (by rw [pm.length_eq]; omega) I' (fun g hg => ha g (pm.subset hg)) (by rw [e1]; exact hu.step kp he hf c) fun es' s'' pe oe Ie => q es' s'' (pe.trans pm) oe Ie⟩
    · rw [decide_eq_false c]
      refine wpAny_pure (q es s (List.Perm.refl _) (hu.done fun a b _ h1 h2 => ?_) I)
      rw [he] at h1; rw [hf] at h2
      cases h1; cases h2
      exact c
/-- the sift downwards, then upwards -/
theorem dn_run {xs : List V} {R : Result → Shared → Prop} (hA : X.A.in1.units < cLine) (hH : H p = some (.lst xs)) {res : Value} : ∀ (n k : Nat) (es : List Hi) (s : Shared), es.length - k ≤ n → k < es.length → Inv X pins σ (upd H p (.lst (refs es))) s → HiAt H es → Dn es k →
    (∀ (es' : List Hi) (s' : Shared), es'.Perm es → Ord es' → Inv X pins σ (upd H p (.lst (refs es'))) s' → R (.ok (.ret res)) s') →
    codeAny (model X.prog X.w) X.A (.builtin "_heapq.heapify.sift" ⟨[.ref p, .bool false, .bool true, rawInt k, rawInt 0, res, rawInt (-1)], []⟩) R s := by
  intro n
  induction n with
  | zero => intro k es s hk hl; omega
  | succ n ih =>
    intro k es s hk hl I ha hd q
    refine codeAny_builtin e_sift ?_
    rw [Around.under_plainId p_sift _]
    obtain ⟨z, its, m, r, el, g⟩ := I.lstM upd_same
    have sz : its.toArray.size = es.length := by rw [List.size_toArray, ← el]; unfold refs; rw [List.length_map]
    refine wpAny_bind (it_ok g rfl ?_)
    show wpAny _ _ (ite (k < its.toArray.size / 2) _ _) _ _ _
    by_cases c : k < its.toArray.size / 2
    · rw [if_pos c]
      rw [sz] at c
      obtain ⟨e0, h0⟩ : ∃ e, es[k]? = some e := ⟨_, List.getElem?_eq_getElem hl⟩
      obtain ⟨e1, h1⟩ : ∃ e, es[2 * k + 1]? = some e := ⟨_, List.getElem?_eq_getElem (by omega)⟩
      have fin : ∀ (j : Nat) (f : Hi), es[j]? = some f → 0 < j → (j - 1) / 2 = k → (∀ i u, 0 < i → (i - 1) / 2 = k → i ≠ j → es[i]? = some u → ¬ lt u f) → wpAny (model X.prog X.w) X.A.in1 (swT p j k >>= fun _ => pure (PySem.Fin.again (.builtin "_heapq.heapify.sift" ⟨[.ref p, .bool false, .bool true, rawInt (j : Nat), rawInt 0, res, rawInt (-1)], []⟩)))
          (fun fin s' => match fin with | .done f => R (.ok f) s' | .again c' => c'.quiet = true ∧ codeAny (model X.prog X.w) X.A c' R s') (fun e s' => R (.error e) s') s := by
        intro j f hj j0 jk hs
        refine wpAny_bind (sw_ok hH I hj h0 fun s' I' => ?_)
        have pm := sw_perm hj h0
        have jl := (List.getElem?_eq_some_iff.mp hj).1
        exact wpAny_pure ⟨plainId_quiet p_sift _, ih _ _ s' (by rw [pm.length_eq]; omega) (by rw [pm.length_eq]; omega) I' (fun g hg => ha g (pm.subset hg)) (hd.step j0 jk hj h0 hs) fun es' s'' pe oe Ie => q es' s'' (pe.trans pm) oe Ie⟩
      show wpAny _ _ (ite (2 * k + 1 + 1 < its.toArray.size) _ _) _ _ _
      by_cases d : 2 * k + 1 + 1 < its.toArray.size
      · rw [if_pos d]
        rw [sz] at d
        obtain ⟨e2, h2⟩ : ∃ e, es[2 * k + 1 + 1]? = some e := ⟨_, List.getElem?_eq_getElem d⟩
        refine wpAny_bind (at_ok (get_its r h1) (wpAny_bind (at_ok (get_its r h2) ?_)))
        refine wpAny_bind ?_
        refine wpAny_bind (wpAny_holding (wpAny_bind (less_ok I hA (ha e1 (List.mem_of_getElem? h1)) (ha e2 (List.mem_of_getElem? h2)) ⟨_, hH⟩ (wpAny_pure ?_))))
        refine wpAny_bind (it_ok g rfl ?_)
        rw [if_neg (by simp)]
        refine wpAny_pure ?_
        by_cases b : lt e1 e2
        · rw [decide_eq_true b]
          refine fin (2 * k + 1) e1 h1 (by omega) (by omega) fun i u i0 ik n hu => ?_
          obtain rfl : i = 2 * k + 1 + 1 := by omega
          rw [h2] at hu; cases hu
          exact lt_asym b
        · rw [decide_eq_false b]
          refine fin (2 * k + 1 + 1) e2 h2 (by omega) (by omega) fun i u i0 ik n hu => ?_
          obtain rfl : i = 2 * k + 1 := by omega
          rw [h1] at hu; cases hu
          exact b
      · rw [if_neg d]
        rw [sz] at d
        refine fin (2 * k + 1) e1 h1 (by omega) (by omega) fun i u i0 ik n hu => ?_
        have := (List.getElem?_eq_some_iff.mp hu).1
        omega
    · rw [if_neg c]
      rw [sz] at c
      exact wpAny_pure (a := PySem.Fin.again (.builtin "_heapq.heapify.sift" ⟨[.ref p, .bool false, .bool false, rawInt (k : Nat), rawInt 0, res, rawInt (-1)], []⟩)) ⟨plainId_quiet p_sift _, up_run hA hH k k es s (Nat.le_refl _) hl I ha (hd.done (by omega)) q⟩
/-! ### the two functions -/
def rPush : List V → Hp → VK → Prop := fun vs H Q => ∃ (p : Addr) (es : List Hi) (e : Hi), vs = [.ref p, .ref e.a] ∧ H p = some (.lst (refs es)) ∧ HiAt H es ∧ H e.a = some (.tup [.int e.x, .int e.y]) ∧ es.length < 1000 ∧ Ord es ∧ ∀ es' : List Hi, es'.Perm (e :: es) → Ord es' → Q .non (upd H p (.lst (refs es')))
def rPop : List V → Hp → VK → Prop := fun vs H Q => ∃ (p : Addr) (es : List Hi) (e : Hi), vs = [.ref p] ∧ H p = some (.lst (refs es)) ∧ HiAt H es ∧ es[0]? = some e ∧ Ord es ∧ ∀ es' : List Hi, (e :: es').Perm es → Ord es' → Q (.ref e.a) (upd H p (.lst (refs es')))
theorem cr_push (hu : X.A.units + 1 < cLine) : CallR X (.builtin "_heapq.heappush") rPush := by
  intro pins s σ H vs us Q I rv h
  obtain ⟨p, es, e, rfl, hH, ha, he, hl, ho, q⟩ := h
  have hA : X.A.in1.units < cLine := hu
  obtain ⟨u1, u2, rfl, r1, r2⟩ : ∃ u1 u2, us = [u1, u2] ∧ RelV (.ref p) u1 ∧ RelV (.ref e.a) u2 := by
    cases rv with
    | cons a b => cases b with | cons c d => cases d; exact ⟨_, _, rfl, a, c⟩
  cases r1; cases r2
  refine call_fn k_push p_push e_push (a_push _ _) ?_
  obtain ⟨z, its, m, r, el, g⟩ := I.lstM hH
  have ty : s.TypeIs (.ref p) "list" := ⟨_, g, rfl⟩
  refine wpAny_bind ?_
  refine wpAny_bind (wpAny_of_eq (a := ()) rfl (wpAny_bind (wpAny_of_eq (a := ()) rfl ?_)))
  refine wpAny_bind (wpAny_bind (wpAny_isInstance ty AutoSeq1.sub_list_list ?_))
  refine wpAny_pure (wpAny_pure ?_)
  have rs : Vals (refs (es ++ [e])) (its ++ [.ref e.a]) := by
    unfold refs at r ⊢
    rw [List.map_append]
    exact Vals.append r (.cons rfl .nil)
  have len : (refs es).length = es.length := by unfold refs; rw [List.length_map]
  have len2 : (refs (es ++ [e])).length = es.length + 1 := by unfold refs; rw [List.length_map, List.length_append]; rfl
  have small : es.length + 1 ≤ sizeLine := Nat.le_trans hl (by decide)
  have I2 := I.lset (f := fun zs => zs.push (.ref e.a)) (t' := s.toks) hH g (by simp) rs (by rw [len2]; exact small)
  refine wpAny_bind (wpAny_updateSeq g rfl ?_ ?_ ?_)
  · obtain ⟨z2, its2, m2, r2, el2, g2⟩ := I2.lstM upd_same
    have sz : its2.toArray.size - 1 = es.length := by rw [List.size_toArray, ← el2, len2]; omega
    refine wpAny_bind (it_ok g2 rfl ?_)
    rw [sz]
    have ha2 : HiAt H (es ++ [e]) := fun f hf => by
      rcases List.mem_append.mp hf with hf | hf
      · exact ha f hf
      · rw [List.mem_singleton.mp hf]; exact he
    refine wpAny_pure (a := PySem.Fin.again (.builtin "_heapq.heapify.sift" ⟨[.ref p, .bool false, .bool false, rawInt (es.length : Nat), rawInt 0, .none, rawInt (-1)], []⟩)) ⟨plainId_quiet p_sift _, up_run hA hH es.length es.length (es ++ [e]) _ (Nat.le_refl _) (by simp) I2 ha2 (ho.push e) fun es' s' pe oe Ie => ?_⟩
    exact ⟨.non, _, Ie, rfl, q es' (pe.trans List.perm_append_comm) oe⟩
  · rw [List.size_toArray, ← el]; exact z
  · simp; omega
theorem cr_pop (hu : X.A.units + 1 < cLine) : CallR X (.builtin "_heapq.heappop") rPop := by
  intro pins s σ H vs us Q I rv h
  obtain ⟨p, es, e, rfl, hH, ha, he, ho, q⟩ := h
  have hA : X.A.in1.units < cLine := hu
  obtain ⟨u1, rfl, r1⟩ := rv.one
  cases r1
  refine call_fn k_pop p_pop e_pop (a_pop _) ?_
  obtain ⟨z, its, m, r, el, g⟩ := I.lstM hH
  have ty : s.TypeIs (.ref p) "list" := ⟨_, g, rfl⟩
  have len : (refs es).length = es.length := by unfold refs; rw [List.length_map]
  have l0 := (List.getElem?_eq_some_iff.mp he).1
  obtain ⟨la, hla⟩ : ∃ f, es[es.length - 1]? = some f := ⟨_, List.getElem?_eq_getElem (by omega)⟩
  have sz : its.toArray.size = es.length := by rw [List.size_toArray, ← el, len]
  have hb : its.toArray.back? = some (.ref la.a) := by
    show its.toArray[its.toArray.size - 1]? = _
    rw [sz]
    exact get_its r hla
  refine wpAny_bind ?_
  refine wpAny_bind (wpAny_of_eq (a := (.ref p : Value)) rfl ?_)
  refine wpAny_bind (wpAny_bind (wpAny_isInstance ty AutoSeq1.sub_list_list ?_))
  refine wpAny_pure (wpAny_pure ?_)
  refine wpAny_bind (it_ok g rfl ?_)
  rw [hb]
  have I1 := I.lset (f := fun zs => zs.pop) (its' := its.dropLast) (t' := s.toks) hH g (by simp) r.dropLast (by rw [List.length_dropLast]; omega)
  refine wpAny_bind (wpAny_updateSeq g rfl ?_ ?_ ?_)
  · obtain ⟨z1, its1, m1, r1, el1, g1⟩ := I1.lstM upd_same
    by_cases c : es.length = 1
    · rw [if_pos (show (its.toArray.size == 1) = true by rw [sz, c]; rfl)]
      obtain ⟨e0, rfl⟩ := List.length_eq_one_iff.mp c
      obtain rfl : e0 = e := by simpa using he
      obtain rfl : e0 = la := by simpa using hla
      exact wpAny_pure ⟨.ref e0.a, _, I1, rfl, q [] (List.Perm.refl _) Ord.nil⟩
    · rw [if_neg (show ¬ (its.toArray.size == 1) = true by rw [sz]; simpa using c)]
      have r0 := get_its r he
      refine wpAny_bind (at_ok r0 ?_)
      have d0 : (refs es).dropLast = refs es.dropLast := by unfold refs; rw [List.map_dropLast]
      have rs : Vals (refs (es.dropLast.set 0 la)) (its1.set 0 (.ref la.a)) := by
        unfold refs
        rw [List.map_set]
        have z := Vals.set (show RelV (.ref la.a) (.ref la.a) from rfl) 0 r1
        rw [d0] at z
        exact z
      have I2 := I1.lset (f := fun zs => zs.setIfInBounds 0 (.ref la.a)) (t' := s.toks) upd_same g1 (by simp) rs (by unfold refs; rw [List.length_map, List.length_set, List.length_dropLast]; omega)
      rw [upd_upd] at I2
      refine wpAny_bind (wpAny_updateSeq g1 rfl ?_ ?_ ?_)
      · have pm := pop_perm he hla (by omega)
        refine wpAny_pure (a := PySem.Fin.again (.builtin "_heapq.heapify.sift" ⟨[.ref p, .bool false, .bool true, rawInt (0 : Nat), rawInt 0, .ref e.a, rawInt (-1)], []⟩)) ⟨plainId_quiet p_sift _, dn_run hA hH _ 0 (es.dropLast.set 0 la) _ (Nat.le_refl _) (by rw [List.length_set, List.length_dropLast]; omega) I2 (fun f hf => ha f (pm.subset (List.mem_cons_of_mem _ hf))) ho.popped fun es' s' pe oe Ie => ?_⟩
        exact ⟨.ref e.a, _, Ie, rfl, q es' ((pe.cons e).trans pm) oe⟩
      · rw [List.size_toArray, ← el1]; exact z1
      · simp; omega
  · rw [List.size_toArray, ← el]; exact z
  · simp; omega
end
end HQ

/-! HE: enumerate(list, start=n) as a walk. Own work. -/
namespace HE
open PySem PySem.Spec PyProof.Rows L2
section
variable {prog : Program} {w : World} {A : Around} {E : Value → Shared → Prop} {s : Shared}
/-- the next pair: its number n, its item the list's i-th -/
theorem enum_step {e it l : Addr} {n : Int} {i : Nat} {xs : Array Value} {x old : Value} {Q : Value → Shared → Prop} (he : IsEnum s.heap e it n old) (hi : s.heap.IsListIter it l i) (hl : s.heap.IsList l xs) (hx : xs[i]? = some x) (ne : e ≠ it)
    (q : ∀ h', IsEnumOut h' e it (n + 1) x s.heap.objs.size → h'.IsListIter it l (i + 1) → h'.get? s.heap.objs.size = some { cls := .type "tuple", data := .seq #[.int n s.toks, x] } → h'.objs.size = s.heap.objs.size + 1 → (∀ b o, b ≠ e → b ≠ it → s.heap.get? b = some o → h'.get? b = some o) → Q (.ref s.heap.objs.size) { s with heap := h', toks := s.toks + 1 }) :
    wpAny (model prog w) A (Builtin.«enumerate.__next__» ⟨[.ref e], []⟩) (fun fin s' => ∃ v, fin = .done (.ret v) ∧ Q v s') E s := by
  obtain ⟨hp, g, d, tk, os⟩ := s
  refine wpAny_bind (m := field (.ref e) 2) (wpAny_field he rfl (x := .ref it) rfl (wpAny_bind (wpAny_nextOf_list_item hi hl hx fun h1 i1 s1 => ?_)))
  have s1 : Heap.SameBut it hp h1 := s1
  have e1 : IsEnum h1 e it n old := (s1.2 e ne).trans he
  refine wpAny_bind (m := field (.ref e) 3) (wpAny_field e1 rfl (x := rawInt n) rfl (wpAny_bind (m := field (.ref e) 4) (wpAny_field e1 rfl (x := .none) rfl ?_)))
  refine wpAny_bind (m := mkInt n) (wpAny_mkInt (wpAny_bind (m := setField (.ref e) 3 (rawInt (n + 1))) (wpAny_setField_rec e1 (by simp) fun h2 e2 s2 => ?_)))
  have s2 : Heap.SameBut e h1 h2 := s2
  have e2 : IsEnum h2 e it (n + 1) old := e2
  refine wpAny_bind (m := setField (.ref e) 4 .none) (wpAny_setField_rec e2 (by simp) fun h3 e3 s3 => ?_)
  have s3 : Heap.SameBut e h2 h3 := s3
  have e3 : IsEnum h3 e it (n + 1) old := e3
  refine wpAny_bind (m := newTuple [.int n tk, x]) (wpAny_newTuple ?_)
  have z3 : h3.objs.size = hp.objs.size := s3.1.trans (s2.1.trans s1.1)
  obtain ⟨h4, q4⟩ : ∃ h4, h3.push { cls := .type "tuple", data := .seq #[.int n tk, x] } = h4 := ⟨_, rfl⟩
  have e4 : IsEnum h4 e it (n + 1) old := q4 ▸ Heap.get?_push_of_some _ e3
  have el : e < hp.objs.size := Heap.lt_size he
  have ll : e ≠ hp.objs.size := Nat.ne_of_lt el
  have t4 : h4.get? hp.objs.size = some { cls := .type "tuple", data := .seq #[.int n tk, x] } := by rw [← q4, ← z3]; exact Heap.get?_push_size _ rfl
  have z4 : h4.objs.size = hp.objs.size + 1 := by rw [← q4, Heap.size_push, z3]
  have k4 : ∀ b o, b ≠ e → b ≠ it → hp.get? b = some o → h4.get? b = some o := fun b o be bi eb => q4 ▸ Heap.get?_push_of_some _ (s3.extBut b o be (s2.extBut b o be (s1.extBut b o bi eb)))
  have i4 : h4.IsListIter it l (i + 1) := by
    obtain ⟨o, ho, r⟩ := (i1.extBut s2.extBut ne.symm).extBut s3.extBut ne.symm
    exact ⟨o, q4 ▸ Heap.get?_push_of_some _ ho, r⟩
  have e3z : (⟨h3.push { cls := .type "tuple", data := .seq #[.int n tk, x] }, g, d, tk + 1, os⟩ : Shared) = ⟨h4, g, d, tk + 1, os⟩ := by rw [q4]
  refine wpAny_bind (m := Builtin.SmallTypes.ownedTupleIsFree (.ref e)) ?_
  show wpAny _ _ (Builtin.SmallTypes.ownedTupleIsFree (.ref e)) _ _ (⟨h3.push { cls := .type "tuple", data := .seq #[.int n tk, x] }, g, d, tk + 1, os⟩ : Shared)
  rw [e3z]
  refine wpAny_bind (m := field (.ref e) 0) (wpAny_field e4 rfl (x := .none) rfl (wpAny_pure ?_))
  rw [if_pos rfl]
  refine wpAny_bind (wpAny_rule (wpAny_bind (wpAny_field e4 rfl (x := old) rfl (wpAny_bind (wpAny_setField_rec e4 (by simp) fun h5 e5 s5 => ?_)))))
  have s5 : Heap.SameBut e h4 h5 := s5
  have e5 : IsEnum h5 e it (n + 1) x := e5
  refine wpAny_bind (m := Builtin.SmallTypes.ownedTupleHandOut (.ref e) (.ref h3.objs.size)) ?_
  refine wpAny_bind (m := setField (.ref e) 0 (rawInt h3.objs.size)) (wpAny_setField_rec e5 (by simp) fun h6 e6 s6 => ?_)
  have s6 : Heap.SameBut e h5 h6 := s6
  have e6 : IsEnumOut h6 e it (n + 1) x h3.objs.size := e6
  refine wpAny_setField_rec e6 (by simp) fun h7 e7 s7 => ?_
  have s7 : Heap.SameBut e h6 h7 := s7
  have e7 : IsEnumOut h7 e it (n + 1) x h3.objs.size := e7
  refine wpAny_bind (wpAny_letGo (wpAny_pure ⟨.ref h3.objs.size, rfl, ?_⟩))
  rw [z3] at e7 ⊢
  have up : ∀ b o, b ≠ e → h4.get? b = some o → h7.get? b = some o := fun b o be eb => s7.extBut b o be (s6.extBut b o be (s5.extBut b o be eb))
  refine q h7 e7 ?_ (up _ _ ll.symm t4) (s7.1.trans (s6.1.trans (s5.1.trans z4))) fun b o be bi eb => up b o be (k4 b o be bi eb)
  obtain ⟨o, ho, r⟩ := i4
  exact ⟨o, up it o ne.symm ho, r⟩
theorem next_item {e it l : Addr} {n : Int} {i : Nat} {xs : Array Value} {x old : Value} {Q : Option Value → Shared → Prop} (he : IsEnum s.heap e it n old) (hi : s.heap.IsListIter it l i) (hl : s.heap.IsList l xs) (hx : xs[i]? = some x) (ne : e ≠ it)
    (q : ∀ h', IsEnumOut h' e it (n + 1) x s.heap.objs.size → h'.IsListIter it l (i + 1) → h'.get? s.heap.objs.size = some { cls := .type "tuple", data := .seq #[.int n s.toks, x] } → h'.objs.size = s.heap.objs.size + 1 → (∀ b o, b ≠ e → b ≠ it → s.heap.get? b = some o → h'.get? b = some o) → Q (some (.ref s.heap.objs.size)) { s with heap := h', toks := s.toks + 1 }) :
    wpAny (model prog w) A (pyNext (.ref e)) Q E s := by
  have ty : s.TypeIs (.ref e) "enumerate" := ⟨_, he, rfl⟩
  refine wpAny_bind (wpAny_attempt (wpAny_callSpecial?_slot (name := Str.ofString "__next__") ty PySem.F.slot_enumerate_next (wpAny_call_entry PySem.F.slot_enumerate_next ty PySem.F.entry_enumerate_next (enum_step he hi hl hx ne fun h' a b c d k => ?_) (PySem.F.args_enumerate_next_1 _))))
  exact wpAny_pure (q h' a b c d k)
theorem next_end {e it l : Addr} {n : Int} {i : Nat} {xs : Array Value} {old : Value} {Q : Option Value → Shared → Prop} (hh : A.handled = none) (he : IsEnum s.heap e it n old) (hi : s.heap.IsListIter it l i) (hl : s.heap.IsList l xs) (hx : xs[i]? = none) (q : ∀ h', Heap.ExtBut it s.heap h' → Q none { s with heap := h' }) :
    wpAny (model prog w) A (pyNext (.ref e)) Q E s := by
  have ty : s.TypeIs (.ref e) "enumerate" := ⟨_, he, rfl⟩
  refine wpAny_bind (wpAny_attempt (wpAny_callSpecial?_slot (name := Str.ofString "__next__") ty PySem.F.slot_enumerate_next (wpAny_call_entry PySem.F.slot_enumerate_next ty PySem.F.entry_enumerate_next ?_ (PySem.F.args_enumerate_next_1 _))))
  refine wpAny_bind (m := field (.ref e) 2) (wpAny_field he rfl (x := .ref it) rfl (wpAny_bind (wpAny_nextOf_list_end hh hi hl hx fun h' x eb hx' => ?_)))
  obtain ⟨o, ho, hc⟩ := hx'
  exact wpAny_bind (wpAny_isInstance (T := "StopIteration") (b := true) ⟨o, ho, hc⟩ isSubtype_stop (wpAny_pure (q _ eb)))
theorem callT {pos : Pos} {T : String} {args : List (Bool × Sem Value)} {kws : List (Option Str × Sem Value)} {M : Model} {Q : Value → Shared → Prop} (hp : args.any (·.1) = false) (hk : kws.any (·.1.isNone) = false)
    (h : wpAny M A (evalArgs (.type T) true args kws) (fun a s1 => wpAny M A (call (.type T) a.pos a.kw) Q E s1) E s) : wpAny M A (callWith pos (.type T) [] args kws) Q E s := by
  unfold callWith
  refine wpAny_bind (wpAny_holding (wpAny_mono h (fun a s1 h1 => wpAny_bind (wpAny_standAt ?_)) fun _ _ x => x))
  simp only [hp, hk, Bool.or_false] <;>
  exact wpAny_bind (wpAny_pure (wpAny_bind (wpAny_mono h1 (fun r s2 hr => wpAny_bind (wpAny_holding (wpAny_point (wpAny_pure hr)))) fun _ _ x => x)))
end
/-- the list at a, its items counted from c on -/
def Ie (K : PySem.W.Frag) (a : Addr) (c : Int) : L2.It :=
  ⟨fun i H => ∃ (xs : List V) (x : V), SqL K H a xs ∧ xs[i]? = some x, fun i H v H' => ∃ T x, v = .ref T ∧ H T = none ∧ H' = upd H T (.tup [.int (c + (i : Nat)), x]) ∧ ∀ xs, SqL K H a xs → xs[i]? = some x, fun i H => ∃ xs : List V, SqL K H a xs ∧ xs.length ≤ i⟩
theorem turn_e {P : Program} {w : World} {K : PySem.W.Frag} {elts : List Expr} {kk : Nat} {tpos : Pos} (a e it : Addr) (c : Int) : Turn P w K (.Tuple elts kk tpos) (Ie K a c) [e, it] e (fun i h => (∃ old, IsEnum h e it (c + (i : Nat)) old) ∧ h.IsListIter it a i ∧ e ≠ it) where
  mem := by simp
  obj := fun i h st b hb => by
    obtain ⟨⟨old, he⟩, ⟨o, ho, hc, hd⟩, _⟩ := st
    rcases (by simpa using hb : b = e ∨ b = it) with z | z
    · subst z; exact ⟨_, he, fun v q => nomatch q⟩
    · subst z; exact ⟨o, ho, fun v q => by rw [hd] at q; cases q⟩
  keep := fun i h h' st k => let ⟨⟨old, he⟩, hi, hn⟩ := st; ⟨⟨old, k e (by simp) _ he⟩, hi.at fun o q => k it (by simp) o q, hn⟩
  item := by
    intro X hP hw hK hc i pins s σ H E I hf st hg
    subst hP hw hK
    obtain ⟨⟨old, he⟩, hit, hne⟩ := st
    obtain ⟨xs, x, hq, hx⟩ := hg
    obtain ⟨its, rv, p, hz⟩ := I.list hq
    obtain ⟨u, hu, ru⟩ := rv.get hx
    have el : e < s.heap.objs.size := Heap.lt_size he
    have il : it < s.heap.objs.size := by obtain ⟨_, q, _⟩ := hit; exact Heap.lt_size q
    refine next_item he hit p.isList (x := u) (by simpa using hu) hne fun h' ho hit' hT hsz hk => ⟨_, rfl, ?_⟩
    refine wpAny_letOwnedTupleGo_enum (s := { s with heap := h', toks := s.toks + 1 }) ho fun h2 he2 sb => ?_
    have hT2 : h2.get? s.heap.objs.size = some { cls := .type "tuple", data := .seq #[.int (c + (i : Nat)) s.toks, u] } := (sb.2 _ (Nat.ne_of_gt el)).trans hT
    have new : ObjOk X.prog X.w (upd H s.heap.objs.size (.tup [.int (c + (i : Nat)), x])) h2 s.heap.objs.size (.tup [.int (c + (i : Nat)), x]) := ⟨by show 2 ≤ sizeLine; decide, [.int (c + (i : Nat)) s.toks, u], .cons ⟨_, rfl⟩ (.cons ru .nil), ⟨_, hT2, rfl, _, rfl⟩⟩
    have I1 : Inv X pins σ (upd H s.heap.objs.size (.tup [.int (c + (i : Nat)), x])) { s with heap := h2, toks := s.toks + 1 } := I.turnedNew (ch := [e, it]) (fun b ob hb q => (sb.2 b (fun z => hb (by simp [z]))).trans (hk b ob (fun z => hb (by simp [z])) (fun z => hb (by simp [z])) q)) hf (Nat.le_refl _) new
    refine ⟨.ref s.heap.objs.size, _, I1, rfl, ⟨_, x, rfl, I.hok.fresh (Nat.le_refl _), rfl, fun ys hy => by rw [I.list_inj hy hq]; exact hx⟩, ⟨⟨u, ?_⟩, hit'.at fun o q => (sb.2 it (Ne.symm hne)).trans q, hne⟩, fun b hb => ?_⟩
    · have e1 : c + ((i + 1 : Nat) : Int) = c + (i : Int) + 1 := by omega
      rw [e1]; exact he2
    · have lb : b < s.heap.objs.size := by
        rcases (by simpa using hb : b = e ∨ b = it) with z | z
        · subst z; exact el
        · subst z; exact il
      rw [upd_ne (Nat.ne_of_lt lb)]
      exact (hf b hb).1
  done := by
    intro X hP hw hK hc i pins s σ H E I hf st hg
    subst hP hw hK
    obtain ⟨⟨old, he⟩, hit, hne⟩ := st
    obtain ⟨xs, hq, hx⟩ := hg
    obtain ⟨its, rv, p, hz⟩ := I.list hq
    obtain ⟨f0, f1, f2, f3, f4, f5⟩ := hf it (by simp)
    have hl := rv.length
    refine next_end (I.ok.hd hc) he hit p.isList (by simp; omega) fun h' eb => ⟨rfl, ?_⟩
    exact I.turned (t' := s.toks) (fun b o hb q => eb b o hb q) f0 f1 f3 f4 f5
  self := fun A i s Q E st h => let ⟨⟨_, he⟩, _⟩ := st; wpAny_pyIter_enum he h
def iE (K : PySem.W.Frag) (ta tk : TA) : TI := fun σ H R => ta σ H fun vs H1 => tk σ H1 fun zs H2 => ∃ a xs c, vs = [.ref a] ∧ zs = [.int c] ∧ SqL K H2 a xs ∧ -(2 ^ 63) ≤ c ∧ c < 2 ^ 63 ∧ R (Ie K a c) H2
theorem pi_enumK {X : Cx} {e : Expr} {ta tk : TA} {p pos tpos : Pos} {elts : List Expr} {kk : Nat} {kws : List Keyword} (hg : Gl X "enumerate") (hm : X.mg "enumerate" = none) (ha : PA X [e] ta) (hk : PK X kws tk)
    (he : backTo pos (starEach [e] X.env) = (false, eval e X.env) :: backTo pos (starEach [] X.env) := by rfl) (hpl : (backTo pos (starEach [e] X.env)).any (·.1) = false := by rfl)
    (hall : (backToKw pos (keywordEach kws X.env)).all (·.1.isSome) = true := by rfl) (hnone : (backToKw pos (keywordEach kws X.env)).any (·.1.isNone) = false := by rfl) (hks : (backToKw pos (keywordEach kws X.env)).filterMap (·.1) = [Str.ofString "start"] := by rfl) :
    PI X (.Tuple elts kk tpos) (.Call (.Name "enumerate" p) [e] kws pos) (iE X.K ta tk) := by
  refine ⟨fun pins s σ H R I h => ?_⟩
  refine wpAny_Call_Name_kw (ld_blt I hg hm boot_enumerate (callT hpl hnone ?_))
  rw [he]
  refine evalArgs_kwB hall ?_
  rw [← he]
  refine thn (ha.run pos pins s σ H _ I h) fun us s1 ⟨vs, H1, I1, r1, q1⟩ => thn (hk.run pos pins s1 σ H1 _ I1 q1) fun ws s2 ⟨zs, H2, I2, r2, q2⟩ => ?_
  rw [hks]
  obtain ⟨a, xs, c, rfl, rfl, hq, c0, c1, q⟩ := q2
  obtain ⟨u1, rfl, ru⟩ := r1.one
  obtain ⟨u2, rfl, rw2⟩ := r2.one
  cases ru
  obtain ⟨t, rfl⟩ := rw2
  obtain ⟨its, rv, p', hz⟩ := I2.list hq
  refine enum_begins_start (begins_list a its.toArray) p'.isList c0 c1 fun h' he' hit hsz hk => wpAny_pyIter_enum he' ?_
  have I3 : Inv X pins σ H2 { s2 with heap := h' } := I2.kept (t' := s2.toks) hk
  have e0 : IsEnum h' (s2.heap.objs.size + 1) s2.heap.objs.size (c + (0 : Nat)) .none := by rw [show c + ((0 : Nat) : Int) = c by omega]; exact he'
  refine ⟨s2.heap.objs.size + 1, [s2.heap.objs.size + 1, s2.heap.objs.size], _, _, H2, rfl, I3, turn_e a (s2.heap.objs.size + 1) s2.heap.objs.size c, ⟨⟨.none, e0⟩, ⟨_, hit, rfl, rfl⟩, Nat.succ_ne_self _⟩, fun b hb => ?_, q⟩
  have le : s2.heap.objs.size ≤ b := by
    rcases (by simpa using hb : b = s2.heap.objs.size + 1 ∨ b = s2.heap.objs.size) with z | z
    · subst z; exact Nat.le_succ _
    · subst z; exact Nat.le_refl _
  exact I2.fpOk le (I2.hok.fresh le)
theorem walk_e {K : PySem.W.Frag} {a : Addr} {xs : List V} {c : Int} : Walk (Ie K a c) xs.length (fun H => SqL K H a xs) (YPair (fun i => some (.int (c + (i : Nat)))) (fun i => xs[i]?)) := by
  refine ⟨fun i _ hi q => ⟨xs, xs[i], q, by simp⟩, fun _ q => ⟨xs, q, Nat.le_refl _⟩, fun i H v H' _ q y => ?_⟩
  obtain ⟨T, x, rfl, n, rfl, g⟩ := y
  exact ⟨T, _, x, rfl, n, rfl, rfl, g xs q⟩
/-! ### a dict walked that nobody writes any more: it is locked for good -/
def tFrz (td : TE) : TE := fun σ H Q => td σ H fun x H1 => ∃ d kvs, x = .ref d ∧ H1 d = some (.dK kvs) ∧ ∀ o, Q (.ref d) (upd H1 d (.frz o (.dK kvs)))
theorem pe_frz {X : Cx} {e : Expr} {td : TE} (he : PE X e td) : PE X e (tFrz td) := by
  refine ⟨fun pins s σ H Q I h => ?_⟩
  refine thn (he.run pins s σ H _ I h) fun u s1 ⟨x, H1, I1, rx, d, kvs, ex, hd, q⟩ => ?_
  subst ex
  obtain ⟨od, I2⟩ := I1.lock hd trivial
  exact ⟨.ref d, _, I2, rx, q od⟩
end HE

/-! HAL: xs[i] += e, xs[i] -= e of a list. Own work. -/
namespace HAL
open PySem PySem.Spec PyProof.Rows L2
def rGL (K : PySem.W.Frag) : V → V → Hp → VK → Prop := fun o i H Q => ∃ (p : Addr) (xs : List V) (k : Nat) (v : V), o = .ref p ∧ i = .int (k : Int) ∧ SqL K H p xs ∧ xs[k]? = some v ∧ Q v H
theorem get_list {X : Cx} : PGet X (rGL X.K) := by
  intro pins s σ H o i ov iv Q I ro ri h
  obtain ⟨p, xs, k, v, rfl, rfl, hq, hv, q⟩ := h
  cases ro
  obtain ⟨t, rfl⟩ := ri
  obtain ⟨its, r, pl, hz⟩ := I.list hq
  obtain ⟨u, hu, ru⟩ := r.get hv
  have hl := r.length
  have lk := (List.getElem?_eq_some_iff.mp hv).1
  exact wpAny_getItem_list pl.isList (by omega) (by have := line63; omega) (by simpa using hu) ⟨v, H, I, ru, q⟩
theorem ps_laug {X : Cx} {o i e : Expr} {to ti te : TE} {tip : TIp} {op : Operator} {tpos pos : Pos} (ho : PE X o to) (hi : PE X i ti) (he : PE X e te) (hp : PIp X op tip)
    (ha : ∀ ov iv new, augStore i ov iv new = (do holding [new, ov, iv] (setItem ov iv new); release [new, ov, iv] []; pure .next) := by intros; rfl) : PS X (.AugAssign (.Subscript o i tpos) op e pos) (tAugS to ti te (rGL X.K) tip rSetL) := ps_augS ho hi get_list he hp set_list ha
end HAL

/-! HSI: set(xs) of a list of numbers. Own work. -/
namespace HSI
open PySem PySem.Spec PyProof.Rows L2
section
variable {P : Program} {w : World} {A : Around} {E : Value → Shared → Prop} {s : Shared}
abbrev fresh (w : World) : Obj := { cls := .type "set", dict := none, data := .set #[] 0 (.fresh 0 0 (!w.params.followText "set-order")) }
theorem int_val {items : Array Value} {xs : List Int} (h : IntsAre items.toList xs) (len : items.size = xs.length) {i : Nat} {v : Value} (hv : items[i]? = some v) : ∃ k t, xs[i]? = some k ∧ v = .int k t := by
  have lt : i < xs.length := by rw [← len]; exact (Array.getElem?_eq_some_iff.mp hv).1
  obtain ⟨t, e⟩ := h.int_at i v (by rw [Array.getElem?_toList]; exact hv)
  exact ⟨xs[i], t, List.getElem?_eq_getElem lt, by rw [e, List.getD_eq_getElem?_getD, List.getElem?_eq_getElem lt] <;> rfl⟩
set_option maxHeartbeats 8000000 in
theorem set_of_ints {l : Addr} {items : Array Value} {xs : List Int} {Q : Value → Shared → Prop} (hh : A.handled = none) (hl : s.heap.IsList l items) (hi : IntsAre items.toList xs) (hb : xs.length + 1 < scanBound)
    (hQ : ∀ (h' : Heap) (tk c : Nat), SetR w h' s.heap.objs.size (fun j => decide (j ∈ xs)) c → c ≤ xs.length → (∀ b ob, b < s.heap.objs.size → s.heap.get? b = some ob → h'.get? b = some ob) → Q (.ref s.heap.objs.size) { s with heap := h', toks := tk }) :
    wpAny (model P w) A (call (.type "set") [.ref l]) Q E s := by
  have len : items.size = xs.length := by
    have q := hi.length
    rw [Array.length_toList] at q
    exact q
  obtain ⟨c, tl, hmro⟩ := F.called_set.mro
  have hmade := F.called_set.made
  have hsub := F.called_set.sub
  refine wpAny_call (codeAny_of_tree ?_)
  show wpAny _ _ (callAny (.type "set") _) _ _ _
  refine wpAny_pure ⟨Code.quiet_builtin _ (by decide +kernel), codeAny_builtin F.entry_type_call ?_⟩
  rw [Around.under_plain (weight_type_call_type "set" [.ref l] []) rfl]
  have h1 := F.called_set.notType
  have h2 := F.called_set.canCreate
  have hct := PySem.F.typeCall_set_1 (.ref l)
  repeat (any_goals (first | assumption | wp_step))
  refine codeAny_mono (code_set_led1 (.ref l) (E := E) (Q₁ := fun ob s1 => ob = .ref s.heap.objs.size ∧ s1 = { s with heap := s.heap.push (fresh w) }) ⟨rfl, rfl⟩) fun r s1 hr => ?_
  cases r with
  | error e => exact hr
  | ok fl =>
    cases fl with
    | ret ob =>
      obtain ⟨rfl, rfl⟩ := hr
      have at0 : (s.heap.push (fresh w)).get? s.heap.objs.size = some (fresh w) := Heap.get?_push_size _ rfl
      have ty0 : Shared.TypeIs { s with heap := s.heap.push (fresh w) } (.ref s.heap.objs.size) "set" := ⟨_, at0, rfl⟩
      have hli := F.called_set.init.lookup
      have hbi := F.called_set.init.bind (.ref s.heap.objs.size)
      repeat (any_goals (first | assumption | wp_step))
      refine codeAny_mono (codeAny_call_builtin (R := wants (fun r s2 => r = .none ∧ ∃ h' tk c, s2 = { s with heap := h', toks := tk } ∧ SetR w h' s.heap.objs.size (fun j => decide (j ∈ xs)) c ∧ c ≤ xs.length ∧
          (∀ b ob, b < s.heap.objs.size → s.heap.get? b = some ob → h'.get? b = some ob)) E) F.called_set.init.plain F.entry_set_init (PySem.check_set_init_1 ty0 ?_)) fun r2 s2 hr2 => ?_
      · obtain ⟨ol, hol, hcl, nl, hdl⟩ := hl
        obtain ⟨ocls, odict, odata, oslots⟩ := ol
        simp only at hcl hdl
        subst hcl; subst hdl
        have hol' := Heap.get?_push_of_some (fresh w) hol
        have n1 := PySem.F.sub_list_set
        have n2 := PySem.F.sub_list_frozenset
        have n3 : (Value.type "list" == Value.type "dict") = false := by decide
        have isl : (s.heap.push (fresh w)).IsList l items := ⟨_, hol', rfl, nl, rfl⟩
        unfold Builtin.«set.__init__» noKeywords Builtin.Frozenset.updateFrom
        generalize hPI : pyIter = PI
        wp_walk
        subst hPI
        refine wpAny_pyIter_list isl (wpAny_bind (wpAny_runValue ?_))
        have lt : l < s.heap.objs.size := Heap.lt_size hol
        have hh3 : A.in1.in1.in1.handled = none := by simp [hh]
        have ne1 : l ≠ (s.heap.push (fresh w)).objs.size := by
          rw [Heap.size_push]; exact Nat.ne_of_lt (Nat.lt_succ_of_lt lt)
        have ne2 : s.heap.objs.size ∉ [(s.heap.push (fresh w)).objs.size, l] := by
          rw [Heap.size_push]; simp only [List.mem_cons, List.mem_singleton, List.not_mem_nil, or_false, not_or]
          exact ⟨Nat.ne_of_lt (Nat.lt_succ_self _), Nat.ne_of_gt lt⟩
        refine set_update_ints ((Walks.list hh3 _ l ne1 items).toS) s.heap.objs.size ne2 xs len hb (fun i v hv => int_val hi len hv) (items.size - 0) 0 _ (by omega) (Nat.zero_le _)
          ⟨⟨_, Heap.get?_push_size _ rfl, rfl, rfl⟩, (isl.push _)⟩ ⟨0, Nat.le_refl 0, setR_new_at (Heap.get?_push_of_some _ at0)⟩ fun s3 c3 hm cl set3 => ?_
        obtain ⟨h', g', d', tk', os'⟩ := s3
        have eg : g' = s.gens := hm.gens
        have ed : d' = s.drawn := hm.drawn
        have eo : os' = s.os := hm.os
        subst eg; subst ed; subst eo
        show wpAny _ _ _ _ _ _
        refine wpAny_pure ?_
        show wpAny _ _ (ret Value.none) _ _ _
        refine wpAny_pure ⟨rfl, h', tk', c3, rfl, set3, (by rw [← len]; exact cl), fun b ob hb e => ?_⟩
        have b1 : b ≠ s.heap.objs.size := Nat.ne_of_lt hb
        have b2 : b ≠ (s.heap.push (fresh w)).objs.size := by
          rw [Heap.size_push]; exact Nat.ne_of_lt (Nat.lt_succ_of_lt hb)
        exact hm.heap b ob (by simp only [List.mem_cons, List.mem_singleton, List.not_mem_nil, or_false, not_or]; exact ⟨b1, b2⟩) (Heap.get?_push_of_some _ (Heap.get?_push_of_some _ e))
      · cases r2 with
        | error e => exact hr2
        | ok fl2 =>
          cases fl2 with
          | ret r =>
            obtain ⟨rfl, h', tk, c3, rfl, set3, cl, k3⟩ := hr2
            repeat (any_goals (first | assumption | wp_step))
            exact hQ _ _ _ set3 cl k3
          | _ => exact hr2.elim
    | _ => exact hr.elim
end
theorem cr_setI {X : Cx} (hc : X.calm = true) : CallR X (.type "set") (fun xs H Q => ∃ (l : Addr) (ns : List Int), xs = [V.ref l] ∧ SqL X.K H l (ns.map V.int) ∧ ns.length + 1 < scanBound ∧ ∀ p c, H p = none → c ≤ ns.length → Q (.ref p) (upd H p (SetO X.w p (fun j => decide (j ∈ ns)) c))) := by
  intro pins s σ H xs us Q I r h
  obtain ⟨l, ns, rfl, hl, hb, q⟩ := h
  rw [Vals.ref1 r]
  obtain ⟨its, rv, pl, hz⟩ := I.list hl
  refine set_of_ints (P := X.prog) (w := X.w) (I.ok.hd hc) pl.isList (intsAre_of rv) hb fun h' tk c R cl k => ?_
  exact ⟨.ref _, upd H s.heap.objs.size (SetO X.w s.heap.objs.size (fun j => decide (j ∈ ns)) c), I.laid (t' := tk) (fun b u e => k b u (Heap.lt_size e) e) (Nat.le_refl _) (setO_new R), rfl, q _ c (I.hok.fresh (Nat.le_refl _)) cl⟩
end HSI

namespace K15
open PySem PySem.Spec PyProof.Rows L2
def top (i : Nat) : Stmt := PySem.Challenge.pw_flatsheaves_k15_slots_of_blocks.main.body.getD i (.Pass ⟨0, 0, 0, 0⟩)
abbrev s_forms_of : Stmt := top 2
theorem sc_forms_of : FnScope ["kind", "forms", "waiting", "part"] ["kind"] (defScope s_forms_of) := ⟨rfl, rfl, rfl, by decide +kernel, rfl, by decide +kernel, by decide +kernel⟩
abbrev s_vector_count : Stmt := top 4
theorem sc_vector_count : FnScope ["kind", "form"] ["kind"] (defScope s_vector_count) := ⟨rfl, rfl, rfl, by decide +kernel, rfl, by decide +kernel, by decide +kernel⟩
abbrev s_live : Stmt := top 6
theorem sc_live : FnScope ["block", "spans", "_", "beginning", "number", "first", "rows", "now", "index", "new"] ["block"] (defScope s_live) := ⟨rfl, rfl, rfl, by decide +kernel, rfl, by decide +kernel, by decide +kernel⟩
abbrev s_fewest : Stmt := top 7
theorem sc_fewest : FnScope ["block", "changes", "first", "last", "now", "best", "index", "change"] ["block"] (defScope s_fewest) := ⟨rfl, rfl, rfl, by decide +kernel, rfl, by decide +kernel, by decide +kernel⟩
abbrev s_plan : Stmt := top 8
theorem sc_plan : FnScope ["block", "slots", "free", "taken", "number", "first", "last"] ["block"] (defScope s_plan) := ⟨rfl, rfl, rfl, by decide +kernel, rfl, by decide +kernel, by decide +kernel⟩
abbrev s_plan_right : Stmt := top 9
theorem sc_plan_right : FnScope ["block", "slots", "lasts", "number", "first", "last", "slot"] ["block", "slots"] (defScope s_plan_right) := ⟨rfl, rfl, rfl, by decide +kernel, rfl, by decide +kernel, by decide +kernel⟩
abbrev s_spans_of : Stmt := top 10
theorem sc_spans_of : FnScope ["block", "_", "given", "code", "results", "number", "firsts", "at", "outputs", "lasts", "inputs"] ["block"] (defScope s_spans_of) := ⟨rfl, rfl, rfl, by decide +kernel, rfl, by decide +kernel, by decide +kernel⟩
abbrev s_law_state : Stmt := top 12
theorem sc_law_state : FnScope ["script", "seed", "cell"] ["script"] (defScope s_law_state) := ⟨rfl, rfl, rfl, by decide +kernel, rfl, by decide +kernel, by decide +kernel⟩
abbrev s_law_draw : Stmt := top 13
theorem sc_law_draw : FnScope ["state", "many", "cells", "value", "mixed"] ["state", "many"] (defScope s_law_draw) := ⟨rfl, rfl, rfl, by decide +kernel, rfl, by decide +kernel, by decide +kernel⟩
abbrev s_law_pick : Stmt := top 14
theorem sc_law_pick : FnScope ["state", "row"] ["state", "row"] (defScope s_law_pick) := ⟨rfl, rfl, rfl, by decide +kernel, rfl, by decide +kernel, by decide +kernel⟩
abbrev s_law_code : Stmt := top 16
theorem sc_law_code : FnScope ["state", "many", "code", "k", "safe", "out", "name", "first", "second", "again"] ["state", "many"] (defScope s_law_code) := ⟨rfl, rfl, rfl, by decide +kernel, rfl, by decide +kernel, by decide +kernel⟩
abbrev s_law_blocks : Stmt := top 17
theorem sc_law_blocks : FnScope ["state", "code", "safe", "results", "pair", "main", "inner", "other", "number", "call", "part"] ["state"] (defScope s_law_blocks) := ⟨rfl, rfl, rfl, by decide +kernel, rfl, by decide +kernel, by decide +kernel⟩
abbrev s_law_live : Stmt := top 18
theorem sc_law_live : FnScope ["block", "rows", "at", "row", "numbers", "k", "later", "part", "number", "fresh"] ["block"] (defScope s_law_live) := ⟨rfl, rfl, rfl, by decide +kernel, rfl, by decide +kernel, by decide +kernel⟩
abbrev s_law_fits : Stmt := top 19
theorem sc_law_fits : FnScope ["rows", "slots", "row", "taken", "number"] ["rows", "slots"] (defScope s_law_fits) := ⟨rfl, rfl, rfl, by decide +kernel, rfl, by decide +kernel, by decide +kernel⟩
abbrev s_law_turned : Stmt := top 20
theorem sc_law_turned : FnScope ["state", "slots", "out", "numbers", "number"] ["state", "slots"] (defScope s_law_turned) := ⟨rfl, rfl, rfl, by decide +kernel, rfl, by decide +kernel, by decide +kernel⟩
abbrev s_law : Stmt := top 21
theorem sc_law : FnScope ["script", "state", "block", "before", "due", "own", "most", "first", "k", "turned", "told", "row", "number"] ["script"] (defScope s_law) := ⟨rfl, rfl, rfl, by decide +kernel, rfl, by decide +kernel, by decide +kernel⟩
/-! ### what stands where -/
structure DefAt (K : PySem.W.Frag) (mg : Str → Option Value) (x : Str) (st : Stmt) (ps : List Str) (f : Addr × FuncData) : Prop where
  F : Fun K x x st f.1 f.2
  g : mg x = some (.ref f.1)
  b : Binds K f.2 ps []
structure Ad where
  forms_of : Addr × FuncData
  vector_count : Addr × FuncData
  live : Addr × FuncData
  fewest : Addr × FuncData
  plan : Addr × FuncData
  plan_right : Addr × FuncData
  spans_of : Addr × FuncData
  law_state : Addr × FuncData
  law_draw : Addr × FuncData
  law_pick : Addr × FuncData
  law_code : Addr × FuncData
  law_blocks : Addr × FuncData
  law_live : Addr × FuncData
  law_fits : Addr × FuncData
  law_turned : Addr × FuncData
  law : Addr × FuncData
structure Txt (w : World) (K : PySem.W.Frag) (mg : Str → Option Value) (a : Ad) : Prop where
  forms_of : DefAt K mg "forms_of" s_forms_of ["kind"] a.forms_of
  vector_count : DefAt K mg "vector_count" s_vector_count ["kind"] a.vector_count
  live : DefAt K mg "live" s_live ["block"] a.live
  fewest : DefAt K mg "fewest" s_fewest ["block"] a.fewest
  plan : DefAt K mg "plan" s_plan ["block"] a.plan
  plan_right : DefAt K mg "plan_right" s_plan_right ["block", "slots"] a.plan_right
  spans_of : DefAt K mg "spans_of" s_spans_of ["block"] a.spans_of
  law_state : DefAt K mg "_law_state" s_law_state ["script"] a.law_state
  law_draw : DefAt K mg "_law_draw" s_law_draw ["state", "many"] a.law_draw
  law_pick : DefAt K mg "_law_pick" s_law_pick ["state", "row"] a.law_pick
  law_code : DefAt K mg "_law_code" s_law_code ["state", "many"] a.law_code
  law_blocks : DefAt K mg "_law_blocks" s_law_blocks ["state"] a.law_blocks
  law_live : DefAt K mg "_law_live" s_law_live ["block"] a.law_live
  law_fits : DefAt K mg "_law_fits" s_law_fits ["rows", "slots"] a.law_fits
  law_turned : DefAt K mg "_law_turned" s_law_turned ["state", "slots"] a.law_turned
  law : DefAt K mg "law" s_law ["script"] a.law
  len : mg "len" = none
  abs : mg "abs" = none
  int : mg "int" = none
  max : mg "max" = none
  isinstance : mg "isinstance" = none
  range : mg "range" = none
  enumerate : mg "enumerate" = none
  list : mg "list" = none
  sorted : mg "sorted" = none
  set : mg "set" = none
  repr : mg "repr" = none
  dict : mg "dict" = none
  bool : mg "bool" = none
  heappush : mg "heappush" = some (.builtin "_heapq.heappush")
  heappop : mg "heappop" = some (.builtin "_heapq.heappop")
/-! ### numbers -/
def InR (n : Int) : Prop := -2147483648 ≤ n ∧ n ≤ 2147483647
def wrap (n : Int) : Int := (n + 2147483648) % 4294967296 - 2147483648
theorem wrap_in (n : Int) : InR (wrap n) := by unfold wrap InR; omega
theorem wrap_id {n : Int} (h : InR n) : wrap n = n := by unfold wrap; unfold InR at h; omega
theorem pe_gv {X : Cx} {x : Str} {v : V} {pos : Pos} (hg : Gl X x) (h : ∃ u, X.mg x = some u ∧ RelV v u) (hd : (x == ("__debug__" : Str)) = false := by decide) : PE X (.Name x pos) (tC v) := by
  obtain ⟨u, a, b⟩ := h
  exact pe_glob hg a b hd
theorem exm_of {K : PySem.W.Frag} {S : Addr} (h1 : PySem.W.subIn K (.ref S) (.type "BaseException") = some true) (h2 : PySem.W.isClsIn K S = true) (h3 : PySem.W.typeIn K (.ref S) = some (.type "type")) (h4 : PySem.W.subIn K (.ref S) (.ref S) = some true) :
    PySem.W.exmOne K (.ref S) (.ref S) = some true := by
  have e1 : (PySem.W.subIn K (.ref S) (.type "BaseException") == some true) = true := by rw [h1] <;> rfl
  have e2 : ((PySem.W.clsIn K S).isSome && PySem.W.typeIn K (.ref S) == some (.type "type")) = true := by
    have h2' : (PySem.W.clsIn K S).isSome = true := h2
    rw [h2', h3] <;> rfl
  show (if (PySem.W.subIn K (.ref S) (.type "BaseException") == some true) = true then (if ((PySem.W.clsIn K S).isSome && PySem.W.typeIn K (.ref S) == some (.type "type")) = true then PySem.W.subIn K (.ref S) (.ref S) else none) else none) = some true
  rw [if_pos e1, if_pos e2]
  exact h4
/-- // by any divisor but 0 of less than 9000 bits -/
def CDivX (_ j : Int) : Prop := j ≠ 0 ∧ j.natAbs.log2 < 9000
theorem op_fdivX {X : Cx} : OpR X (binaryOp .FloorDiv) (rI CDivX fun i j => .int (i.fdiv j)) := opI fun _ _ _ _ _ _ _ hc q => floordiv_int hc.1 q (.inl (PyProof.noPylong_of_log2 hc.2))
theorem divx_ok {i j : Int} (h0 : j ≠ 0) (h : InR j) : CDivX i j := ⟨h0, Nat.lt_of_lt_of_le (PySem.Flt.log2_lt_of (k := 32) (by decide) (by unfold InR at h; omega)) (by decide)⟩
def sgn : List Str := ["+", "-", "*", "/", "mod", "min", "max", "<", "="]
section
variable {P : Program} {w : World} {K : PySem.W.Frag} {mg : Str → Option Value} {base : Heap} {a : Ad}
/-! ### the law's own defs -/
def StAt (H : Hp) (st c : Addr) : Prop := ∃ (ns : List Int) (z : Int), H st = some (.lst [.ref c, .int z]) ∧ H c = some (.lst (ns.map V.int))
theorem StAt.ne {H : Hp} {st c : Addr} (h : StAt H st c) : st ≠ c := by
  obtain ⟨ns, z, h1, h2⟩ := h
  refine ne_of h1 h2 fun e => ?_
  cases ns with
  | nil => cases e
  | cons x r => cases e
def Go (st c : Addr) (H H' : Hp) : Prop := (∀ b o, b ≠ st → b ≠ c → H b = some o → H' b = some o) ∧ StAt H' st c
theorem Go.trans {st c : Addr} {H H1 H2 : Hp} (x : Go st c H H1) (y : Go st c H1 H2) : Go st c H H2 := ⟨fun b o h1 h2 e => y.1 b o h1 h2 (x.1 b o h1 h2 e), y.2⟩
theorem same_new {H : Hp} {p : Addr} (h : H p = none) (o : HO) : Same H (upd H p o) := fun b u q => by rw [upd_ne (ne_of_none q h)]; exact q
theorem StAt.keep {H H' : Hp} {st c : Addr} (h : StAt H st c) (k : Same H H') : StAt H' st c := by
  obtain ⟨ns, z, h1, h2⟩ := h
  exact ⟨ns, z, k _ _ h1, k _ _ h2⟩
theorem Go.same {st c : Addr} {H H1 : Hp} (h : StAt H st c) (k : Same H H1) : Go st c H H1 := ⟨fun b o _ _ e => k b o e, h.keep k⟩
theorem ifF {c : Bool} {A B : Prop} (h : c = false) (q : B) : if c = true then A else B := by rw [h]; exact iteF q
theorem ifT {c : Bool} {A B : Prop} (h : c = true) (q : A) : if c = true then A else B := by rw [h]; exact iteT q
theorem int_at {ns : List Int} {i : Nat} {y : V} (h : (ns.map V.int)[i]? = some y) : i < ns.length ∧ ∃ u, y = V.int u := by
  rw [List.getElem?_map] at h
  cases e : ns[i]? with
  | none => rw [e] at h; cases h
  | some u =>
    rw [e] at h
    exact ⟨(List.getElem?_eq_some_iff.mp e).1, u, (Option.some.inj h).symm⟩
def spState (K : PySem.W.Frag) : Sp := fun vs H Q _ => ∃ (p : Addr) (ns : List Int), vs = [.ref p] ∧ SqL K H p (ns.map V.int) ∧ ns.length ≤ 63 ∧ ∀ H' st c, Same H H' → H st = none → H c = none → StAt H' st c → Q (.ref st) H'
theorem ok_law_state (T : Txt w K mg a) : FnOk P w K mg base CX0 1 a.law_state.1 a.law_state.2 ["script"] (spState K) := by
  refine T.law_state.F.ok sc_law_state (fun vs H Q E h => ?_) (fun cdv A outer s H vs Q E hr h => ?_)
  · obtain ⟨p, ns, rfl, _⟩ := h
    rfl
  obtain ⟨p, ns, rfl, hS, h63, q⟩ := h
  have nd := sc_law_state.nd
  refine ⟨_, (pss_cons (ps_set (i := 1) nd rfl (Or.inl rfl) pe_int)
  (pss_cons (ps_for PassesOwn.never rfl (pi_list (pv 0)) (pg_name (i := 2) nd rfl (Or.inl rfl)) (pss_one (ps_set (i := 1) nd rfl (Or.inl rfl) (pe_op op_mod (pe_callTy call_int1 (by rfl) T.int (by decide +kernel) (pa_cons (pe_op op_add (pe_op op_mul (pv 1) pe_int) (pv 2)) pa_nil)) pe_int))))
  (pss_one (ps_ret (pe_lst (pa_cons (pe_lc (own := [("cell", 2)]) (g := gName 2) (tt := tYes) rfl nd (pi_list (pv 0)) (blkOk_by (N := ["script", "seed", "cell"]) (sc := defScope s_law_state) (by decide +kernel)) (fun _ _ _ _ _ => (pg_name (i := 2) nd rfl (Or.inl rfl))) (fun _ _ _ _ _ => pts_nil) (fun _ _ _ _ _ => (pe_callB call_abs (by rfl) T.abs (by decide +kernel) (pa_cons (pe_callTy call_int1 (by rfl) T.int (by decide +kernel) (pa_cons (pv 2) pa_nil)) pa_nil)))) (pa_cons (pe_op op_add (pv 1) pe_int) pa_nil))))))), ?_⟩
  refine ⟨_, rfl, p, rfl, ⟨_, hS⟩, for_list (K := K) (a := p) (xs := ns.map V.int) (fun i σ H' => H' = H ∧ ∃ (z : Int) (v : Option V), σ = [some (.ref p), some (.int z), v]) ⟨rfl, 7, none, rfl⟩ (fun i σ H' _ h => by rw [h.1]; exact hS) ?_ ?_⟩
  · rintro i y σ H' hi ⟨rfl, z, v, rfl⟩
    obtain ⟨_, u, rfl⟩ := int_at hi
    exact ⟨_, rfl, _, _, rfl, rfl, .inr (by decide), _, rfl, _, _, rfl, rfl, .inl ⟨_, rfl, _, _, rfl, rfl, (by show (0 : Int) < 1000003; decide), rfl, _, _, rfl⟩⟩
  · rintro σ H' ⟨rfl, z, v, rfl⟩
    refine ⟨_, rfl, p, rfl, ⟨_, hS⟩, fun D hD => lc_list (K := K) (a := p) (xs := ns.map V.int) (fun i H1 => ∃ acc : List Int, H1 = upd H' D (.lst (acc.map V.int)) ∧ acc.length = i) ⟨[], rfl, rfl⟩ (fun i H1 _ h => ?_) ?_ ?_⟩
    · obtain ⟨acc, rfl, _⟩ := h
      exact (same_new hD _).seq hS
    · rintro i y H1 hi ⟨acc, rfl, hl⟩
      obtain ⟨hi63, u, rfl⟩ := int_at hi
      refine ⟨rfl, _, rfl, .inl ⟨_, rfl, _, rfl, _, upd_same, ?_, acc ++ [if u < 0 then -u else u], ?_, ?_⟩⟩
      · rw [List.length_map]; exact small1000 (by omega)
      · rw [List.map_append, upd_upd]; rfl
      · rw [List.length_append, hl]; rfl
    · rintro H1 ⟨acc, rfl, _⟩
      refine ⟨_, rfl, _, _, rfl, rfl, (by show 2 ≤ sizeLine; decide), fun st hst => ?_⟩
      have hst0 : H' st = none := (same_new hD _).free hst
      refine q _ st D ((same_new hD _).trans (same_new hst _)) hst0 hD ⟨acc, z + 1, upd_same, ?_⟩
      rw [upd_ne (ne_of_none upd_same hst)]
      exact upd_same
def spDraw : Sp := fun vs H Q _ => ∃ (st c : Addr) (m : Int), vs = [.ref st, .int m] ∧ StAt H st c ∧ 0 < m ∧ m < 1099511627776 ∧ ∀ H' n, Go st c H H' → 0 ≤ n → n < m → Q (.int n) H'
theorem ok_law_draw (T : Txt w K mg a) : FnOk P w K mg base CX0 1 a.law_draw.1 a.law_draw.2 ["state", "many"] spDraw := by
  refine T.law_draw.F.ok sc_law_draw (fun vs H Q E h => ?_) (fun cdv A outer s H vs Q E hr h => ?_)
  · obtain ⟨st, c, m, rfl, _⟩ := h
    rfl
  obtain ⟨st, c, m, rfl, hSt, h0, hm, q⟩ := h
  have nd := sc_law_draw.nd
  have hne := hSt.ne
  obtain ⟨ns, z, h1, h2⟩ := hSt
  refine ⟨_, (pss_cons (ps_set (i := 2) nd rfl (Or.inl rfl) (pe_ix ix_list (pv 0) pe_int (fun _ _ => rfl)))
  (pss_cons (ps_while PassesOwn.never (PW.pt (pw_and (pt_cmpR op_gt (pe_callB call_len_seq (by rfl) T.len PySem.boot_len (pa_cons (pv 2) pa_nil)) pe_int (nomark _)) (pw_and1 (pt_cmpR op_eq (pe_ix ix_list (pv 2) pe_int (fun _ _ => rfl)) pe_int (nomark _))))) (pss_one (ps_expr (pe_bm PySem.F.plainAttrs_list PySem.F.slot_list_pop PySem.F.type_list_pop mt_popAt (pv 2) (pa_cons pe_int pa_nil)))))
  (pss_cons (ps_if (pt_cmpR op_gt (pe_callB call_len_seq (by rfl) T.len PySem.boot_len (pa_cons (pv 2) pa_nil)) pe_int (nomark _)) (pss_cons (ps_set (i := 3) nd rfl (Or.inl rfl) (pe_ix ix_list (pv 2) pe_int (fun _ _ => rfl)))
  (pss_cons (ps_asg (pe_op op_fdivW (pv 3) (pv 1)) (pg_sub (pv 2) pe_int set_list))
  (pss_one (ps_ret (pe_op op_mod (pe_callTy call_int1 (by rfl) T.int (by decide +kernel) (pa_cons (pv 3) pa_nil)) (pv 1)))))) pss_nil)
  (pss_cons (ps_set (i := 4) nd rfl (Or.inl rfl) (pe_op op_mod (pe_callTy call_int1 (by rfl) T.int (by decide +kernel) (pa_cons (pe_op op_add (pe_op op_mul (pe_ix ix_list (pv 0) pe_int (fun _ _ => rfl)) pe_int) pe_int) pa_nil)) pe_int))
  (pss_cons (ps_asg (pv 4) (pg_sub (pv 0) pe_int set_list))
  (pss_one (ps_ret (pe_op op_mod (pe_callTy call_int1 (by rfl) T.int (by decide +kernel) (pa_cons (pe_op op_fdiv (pv 4) pe_int) pa_nil)) (pv 1))))))))), ?_⟩
  refine ⟨_, rfl, st, _, _, _, rfl, rfl, SqL.of h1, rfl, ?_⟩
  refine ⟨fun k σ H' => ∃ ns' : List Int, σ = [some (.ref st), some (.int m), some (.ref c), none, none] ∧ k = ns'.length ∧ H' st = some (.lst [.ref c, .int z]) ∧ H' c = some (.lst (ns'.map V.int)) ∧ (∀ b o, b ≠ st → b ≠ c → H b = some o → H' b = some o), ⟨ns.length, ns, rfl, rfl, h1, h2, fun _ _ _ _ e => e⟩, ?_⟩
  rintro k σ H' ⟨ns', rfl, rfl, g1, g2, g3⟩
  have fin : ∀ (ns2 : List Int) (z2 : Int) (H2 : Hp), H2 st = some (.lst [.ref c, .int z2]) → H2 c = some (.lst (ns2.map V.int)) → (∀ b o, b ≠ st → b ≠ c → H' b = some o → H2 b = some o) → Go st c H H2 := fun ns2 z2 H2 e1 e2 e3 => ⟨fun b o n1 n2 e => e3 b o n1 n2 (g3 b o n1 n2 e), ns2, z2, e1, e2⟩
  refine ⟨_, rfl, c, _, rfl, .inl (SqL.of g2), _, _, rfl, rfl, _, rfl, ?_⟩
  cases ns' with
  | nil =>
    refine ifF (by rw [List.map_nil]; decide) ?_
    refine ifF rfl ?_
    refine ⟨_, rfl, c, _, rfl, .inl (SqL.of g2), _, _, rfl, rfl, _, rfl, ?_⟩
    refine ifF (by rw [List.map_nil]; decide) ?_
    refine ⟨_, rfl, st, _, _, _, rfl, rfl, SqL.of g1, rfl, _, _, rfl, rfl, .inr (by decide), _, _, rfl, rfl, .inl ⟨_, rfl, _, _, rfl, rfl, (by show (0 : Int) < 2147483647; decide), ?_⟩⟩
    refine ⟨_, rfl, _, rfl, st, _, _, _, rfl, rfl, g1, rfl, ?_⟩
    refine ⟨_, rfl, _, _, rfl, rfl, (by constructor <;> decide), .inl ⟨_, rfl, _, rfl, _, _, rfl, rfl, h0, ?_⟩⟩
    refine q _ _ (fin [] _ _ upd_same ?_ fun b o n1 _ e => ?_) (Int.emod_nonneg _ (by omega)) (Int.emod_lt_of_pos _ h0)
    · rw [upd_ne hne.symm]; exact g2
    · rw [upd_ne n1]; exact e
  | cons x r =>
    refine ifT (by rw [List.length_map]; exact decide_eq_true (by simp)) ?_
    refine ⟨_, rfl, c, _, _, _, rfl, rfl, SqL.of g2, atI_nat (j := 0) rfl, rfl, _, rfl, ?_⟩
    refine ite2 (fun _ => ?_) (fun _ => ?_)
    · refine ⟨fun σ' H2 => ∃ ns2 : List Int, σ' = [some (.ref st), some (.int m), some (.ref c), none, none] ∧ ns2.length = r.length ∧ H2 st = some (.lst [.ref c, .int z]) ∧ H2 c = some (.lst (ns2.map V.int)) ∧ (∀ b o, b ≠ st → b ≠ c → H b = some o → H2 b = some o), ?_, ?_⟩
      · rintro σ' H2 ⟨ns2, e1, e2, e3⟩
        exact ⟨r.length, by rw [List.length_cons]; omega, ns2, e1, e2.symm, e3⟩
      · refine ⟨_, rfl, .inl ⟨rfl, _, SqL.of g2⟩, c, _, _, 0, _, rfl, rfl, g2, by decide, by decide, ?_, rfl, ?_⟩
        · rw [List.length_map, List.length_cons]
          unfold seqIndex?
          simp
        · refine ⟨r, rfl, rfl, ?_, upd_same, fun b o n1 n2 e => ?_⟩
          · rw [upd_ne hne]; exact g1
          · rw [upd_ne n2]; exact g3 b o n1 n2 e
    · refine ⟨_, rfl, c, _, rfl, .inl (SqL.of g2), _, _, rfl, rfl, _, rfl, ?_⟩
      refine ifT (by rw [List.length_map]; exact decide_eq_true (by simp)) ?_
      refine ⟨_, rfl, c, _, _, _, rfl, rfl, SqL.of g2, atI_nat (j := 0) rfl, ?_⟩
      refine ⟨_, rfl, _, rfl, _, _, rfl, rfl, wide_div (b := 40) h0 (by omega) (by decide) (by decide), ?_⟩
      refine ⟨_, rfl, c, _, _, 0, rfl, rfl, g2, by rw [List.length_map, List.length_cons]; simp [ixN], ?_⟩
      refine ⟨_, rfl, .inl ⟨_, rfl, _, rfl, _, _, rfl, rfl, h0, ?_⟩⟩
      refine q _ _ (fin (x / m :: r) z _ ?_ upd_same fun b o _ n2 e => ?_) (Int.emod_nonneg _ (by omega)) (Int.emod_lt_of_pos _ h0)
      · rw [upd_ne hne]; exact g1
      · rw [upd_ne n2]; exact e
def spPick : Sp := fun vs H Q _ => ∃ (st c r : Addr) (xs : List V), vs = [.ref st, .ref r] ∧ StAt H st c ∧ H r = some (.lst xs) ∧ r ≠ st ∧ r ≠ c ∧ 0 < xs.length ∧ xs.length ≤ 1000 ∧ ∀ H' x, Go st c H H' → x ∈ xs → Q x H'
theorem ok_law_pick (T : Txt w K mg a) : FnOk P w K mg base CX0 2 a.law_pick.1 a.law_pick.2 ["state", "row"] spPick := by
  refine T.law_pick.F.ok sc_law_pick (fun vs H Q E h => ?_) (fun cdv A outer s H vs Q E hr h => ?_)
  · obtain ⟨st, c, r, xs, rfl, _⟩ := h
    rfl
  obtain ⟨st, c, r, xs, rfl, hSt, hx, n1, n2, l0, l1, q⟩ := h
  have G_law_draw := ok_law_draw (P := P) (w := w) (base := base) T
  refine ⟨_, (pss_one (ps_ret (pe_ix ix_list (pv 1) (pe_call G_law_draw (hr.mono (by decide)) rfl T.law_draw.g T.law_draw.F.kp T.law_draw.b .nil pass0 (pa_cons (pv 0) (pa_cons (pe_callB call_len_seq (by rfl) T.len PySem.boot_len (pa_cons (pv 1) pa_nil)) pa_nil))) (fun _ _ => rfl)))), ?_⟩
  refine ⟨_, rfl, _, rfl, _, rfl, r, _, rfl, .inl (SqL.of hx), st, c, _, rfl, hSt, by omega, by omega, fun H' n g h0 h1 => ?_⟩
  have hk : n.toNat < xs.length := by omega
  have ek : n = ((n.toNat : Nat) : Int) := by omega
  refine ⟨r, xs, n, xs[n.toNat], rfl, rfl, SqL.of (g.1 _ _ n1 n2 hx), ?_, q _ _ g (List.getElem_mem hk)⟩
  have e : atI xs ((n.toNat : Nat) : Int) = some xs[n.toNat] := atI_nat (List.getElem?_eq_getElem hk)
  rw [← ek] at e
  exact e
end
end K15

namespace K15
open PySem PySem.Spec PyProof.Rows L2
/-! ### words -/
abbrev iv (ns : List Int) : List V := ns.map V.int
def NN : Nat := 1000000
theorem iv_get {ns : List Int} {i : Nat} {y : V} (h : (iv ns)[i]? = some y) : ∃ n, ns[i]? = some n ∧ y = .int n := by
  rw [List.getElem?_map] at h
  cases e : ns[i]? with
  | none => rw [e] at h; cases h
  | some u => rw [e] at h; exact ⟨u, rfl, (Option.some.inj h).symm⟩
theorem get_iv {ns : List Int} {i : Nat} {n : Int} (h : ns[i]? = some n) : (iv ns)[i]? = some (.int n) := by rw [List.getElem?_map, h]; rfl
theorem iv_len (ns : List Int) : (iv ns).length = ns.length := List.length_map _
def VecsAt (K : PySem.W.Frag) (H : Hp) : List Addr → List (List Int) → Prop
  | [], [] => True
  | a :: as, x :: xs => H a = some (.lst (iv x)) ∧ VecsAt K H as xs
  | _, _ => False
theorem seq_same {K : PySem.W.Frag} {H H' : Hp} {p : Addr} {xs : List V} (s : Same H H') (h : SqL K H p xs) : SqL K H' p xs := s.seq h
theorem VecsAt.same {K : PySem.W.Frag} {H H' : Hp} (s : Same H H') : ∀ {as : List Addr} {xss : List (List Int)}, VecsAt K H as xss → VecsAt K H' as xss
  | [], [], _ => trivial
  | _ :: _, _ :: _, ⟨a, b⟩ => ⟨s _ _ a, b.same s⟩
  | [], _ :: _, h => h.elim
  | _ :: _, [], h => h.elim
theorem VecsAt.one {K : PySem.W.Frag} {H : Hp} {as : List Addr} {x : List Int} (h : VecsAt K H as [x]) : ∃ a, as = [a] ∧ SqL K H a (iv x) ∧ H a = some (.lst (iv x)) := by
  cases as with
  | nil => exact h.elim
  | cons a r =>
    cases r with
    | nil => exact ⟨a, rfl, SqL.of h.1, h.1⟩
    | cons b r => exact h.2.elim
theorem VecsAt.two {K : PySem.W.Frag} {H : Hp} {as : List Addr} {x y : List Int} (h : VecsAt K H as [x, y]) : ∃ a b, as = [a, b] ∧ SqL K H a (iv x) ∧ SqL K H b (iv y) ∧ H a = some (.lst (iv x)) ∧ H b = some (.lst (iv y)) := by
  cases as with
  | nil => exact h.elim
  | cons a r =>
    obtain ⟨b, rfl, i, j⟩ := VecsAt.one h.2
    exact ⟨a, b, rfl, SqL.of h.1, i, h.1, j⟩
/-- one turn of a comprehension: the new list has one more item -/
theorem tick {H1 H H4 : Hp} {D : Addr} {A B : List V} {y : V} (sm : Same H1 H) (n1 : H1 D = none) (hD : H D = some (.lst A)) (s4 : Same H H4) (e : A ++ [y] = B) (hn : B.length ≤ NN) :
    ∃ acc, H4 D = some (.lst acc) ∧ acc.length < sizeLine ∧ (Same H1 (upd H4 D (.lst (acc ++ [y]))) ∧ (upd H4 D (.lst (acc ++ [y]))) D = some (.lst B)) := by
  subst e
  refine ⟨A, s4 _ _ hD, ?_, fun b o eb => ?_, upd_same⟩
  · rw [List.length_append, List.length_singleton] at hn
    exact Nat.lt_of_lt_of_le hn (by show NN ≤ sizeLine; decide)
  · rw [upd_ne (ne_of_none eb n1)]
    exact s4 _ _ (sm _ _ eb)
theorem mapR (F : Nat → Int) (i : Nat) : iv ((List.range i).map F) ++ [V.int (F i)] = iv ((List.range (i + 1)).map F) := by simp [iv, List.range_succ]
theorem flatR (G : Nat → List Int) (i : Nat) : iv ((List.range i).flatMap G) ++ iv (G i) = iv ((List.range (i + 1)).flatMap G) := by simp [iv, List.range_succ]
/-- an inner walk, whatever is done for an item -/
theorem in_it {J : It} {n : Nat} {G : Hp → Prop} {Y : Nat → Hp → V → Hp → Prop} {H1 : Hp} {Qd : Hp → Prop} {B : V → Hp → (Hp → Prop) → Prop} (w : Walk J n G Y) (Pv : Nat → Hp → Prop) (h0 : Pv 0 H1) (hG : ∀ i H, i ≤ n → Pv i H → G H)
    (hs : ∀ i x H H', i < n → Pv i H → Y i H x H' → B x H' (Pv (i + 1))) (hd : ∀ H, Pv n H → Qd H) :
    ∃ W : Nat → Nat → Hp → Prop, (∃ m, W 0 m H1) ∧ ∀ i m H, W i m H → (J.stop i H ∧ Qd H) ∨ (J.go i H ∧ ∃ Nx : Hp → Prop, (∀ H', Nx H' → ∃ m', m' < m ∧ W (i + 1) m' H') ∧ ∀ x H', J.yld i H x H' → B x H' Nx) := by
  refine ⟨fun i m H => m = n - i ∧ i ≤ n ∧ Pv i H, ⟨n, by simp, Nat.zero_le _, h0⟩, ?_⟩
  rintro i m H ⟨rfl, hi, p⟩
  have q := hG i H hi p
  by_cases lt : i < n
  · exact .inr ⟨w.goes i H lt q, Pv (i + 1), fun H' p' => ⟨n - (i + 1), by omega, rfl, lt, p'⟩, fun x H' y => hs i x H H' lt p (w.yields i H x H' lt q y)⟩
  · obtain rfl : i = n := by omega
    exact .inl ⟨w.stops H q, hd H p⟩
/-! rules that name the block's K -/
section
variable {X : Cx} {K : PySem.W.Frag}
theorem call_lenK (hK : X.K = K) : CallR X (.builtin "len") (fun xs H Q => ∃ p ys, xs = [.ref p] ∧ (SqL K H p ys ∨ SqT K H p ys) ∧ Q (.int (ys.length : Nat)) H) := hK ▸ call_len_seq
theorem ix_tupK (hK : X.K = K) : IxR X (rIxT K) := hK ▸ ix_tup
theorem ix_listK (hK : X.K = K) : IxR X (rIxL K) := hK ▸ ix_list
theorem sl_listK (hK : X.K = K) : SlR X (rSlL K) := hK ▸ sl_list
theorem cr_sumK (hK : X.K = K) (hc : X.calm = true) : CallR X (.builtin "sum") (rSum K) := hK ▸ cr_sum hc
theorem pg_tupK {es : List Expr} {k : Nat} {pos : Pos} {t : TGs} {n : Nat} (hK : X.K = K) (hc : X.calm = true) (h : PGs X es t) (hn : (assignEach es X.env).length = n := by rfl) (hst : (assignEach es X.env).findIdx? (·.1) = none := by rfl) : PG X (.Tuple es k pos) (gTup K n t) := hK ▸ pg_tup hc h hn hst
theorem pi_listK {tg l : Expr} {tl : TE} (hK : X.K = K) (hl : PE X l tl) : PI X tg l (iList K tl) := hK ▸ pi_list hl
end
/-! ### what the instructions give -/
def at_ (ls : List Int) (i : Nat) : Int := ls.getD i 0
def pre (ls : List Int) (i : Nat) : Int := (ls.take i).sum
theorem at_some {ls : List Int} {i : Nat} {n : Int} (h : ls[i]? = some n) : at_ ls i = n := by unfold at_; rw [List.getD_eq_getElem?_getD, h]; rfl
theorem at_get {ls : List Int} {i : Nat} (h : i < ls.length) : ls[i]? = some (at_ ls i) := by
  rw [List.getElem?_eq_getElem h, at_some (List.getElem?_eq_getElem h)]
theorem pre_succ {ls : List Int} {i : Nat} (h : i < ls.length) : pre ls (i + 1) = pre ls i + at_ ls i := by
  unfold pre
  rw [List.take_add_one, at_get h, List.sum_append]
  simp
def rng (lo n : Int) : List Int := (List.range n.toNat).map fun (k : Nat) => lo + (k : Int)
theorem rng_len (lo n : Int) : (rng lo n).length = n.toNat := by simp [rng]
/-- lengths: not negative, few -/
structure Lens (ls : List Int) : Prop where
  nn : ∀ i, 0 ≤ at_ ls i
  sm : ls.sum ≤ NN
  ln : ls.length ≤ NN
theorem Lens.mem {ls : List Int} (h : Lens ls) : ∀ l ∈ ls, 0 ≤ l := fun l m => by
  obtain ⟨i, e⟩ := List.getElem?_of_mem m
  rw [← at_some e]; exact h.nn i
theorem sum_nn {ls : List Int} (h : ∀ l ∈ ls, 0 ≤ l) : 0 ≤ ls.sum := by
  induction ls with
  | nil => exact Int.le_refl _
  | cons x r ih =>
    rw [List.sum_cons]
    have := h x (List.mem_cons_self ..)
    have := ih fun y m => h y (List.mem_cons_of_mem _ m)
    omega
theorem pre_le {ls : List Int} (h : ∀ l ∈ ls, 0 ≤ l) (i : Nat) : 0 ≤ pre ls i ∧ pre ls i ≤ ls.sum := by
  have e : ls.sum = (ls.take i).sum + (ls.drop i).sum := by rw [← List.sum_append, List.take_append_drop]
  have a := sum_nn (ls := ls.take i) fun y m => h y (List.mem_of_mem_take m)
  have b := sum_nn (ls := ls.drop i) fun y m => h y (List.mem_of_mem_drop m)
  unfold pre
  omega
theorem Lens.prf {ls : List Int} (h : Lens ls) (i : Nat) : 0 ≤ pre ls i ∧ pre ls i ≤ NN := by
  have := pre_le h.mem i
  have := h.sm
  omega
theorem Lens.seg {ls : List Int} (h : Lens ls) {i : Nat} (hi : i < ls.length) : 0 ≤ at_ ls i ∧ pre ls i + at_ ls i ≤ NN := by
  have a := h.nn i
  have b := h.prf (i + 1)
  rw [pre_succ hi] at b
  omega
theorem iteT' {c : Bool} {A B : Prop} (h : c = true) (q : A) : if c = true then A else B := by rw [h]; exact q
theorem iteF' {c : Bool} {A B : Prop} (h : c = false) (q : B) : if c = true then A else B := by rw [h]; exact q
def nsd (ns : List Int) : PyData := .list (ns.map .int)
theorem nsd_dp {K : PySem.W.Frag} {H : Hp} {p : Addr} {ns : List Int} (h : SqL K H p (iv ns)) : Dp K H (.ref p) (nsd ns) := by
  refine .lst h ?_
  clear h
  induction ns with
  | nil => exact .nil
  | cons n r ih => exact .cons (.int n) ih
theorem nsd_lay (ns : List Int) : (nsd ns).canLay0 = true := by
  show PyData.canLayAll0 (ns.map .int) = true
  induction ns with
  | nil => rfl
  | cons n r ih => exact ih
theorem nsd_dep (ns : List Int) : (nsd ns).depth ≤ 1 := by
  show PyData.depthAll (ns.map .int) + 1 ≤ 1
  have : PyData.depthAll (ns.map .int) = 0 := by
    induction ns with
    | nil => rfl
    | cons n r ih => show max 0 (PyData.depthAll (r.map .int)) = 0; rw [ih]; rfl
  omega
theorem nsd_shaped (ns : List Int) : SeqAt.shaped (nsd ns) = true := by
  unfold SeqAt.shaped
  rw [nsd_lay, decide_eq_true (Nat.le_trans (nsd_dep ns) (by decide))]
  rfl
theorem nsd_eqv : ∀ (ns ms : List Int), PyData.eqv (nsd ns) (nsd ms) = decide (ns = ms) := by
  intro ns ms
  show PyData.eqvAll (ns.map .int) (ms.map .int) = _
  induction ns generalizing ms with
  | nil => cases ms <;> simp [PyData.eqvAll]
  | cons n r ih =>
    cases ms with
    | nil => simp [PyData.eqvAll]
    | cons m t =>
      simp [PyData.eqvAll, PyData.eqv, ih]
      rfl
structure Shw (d : PyData) (n m : Nat) : Prop where
  ok : d.showable = true
  nd : d.hasDict = false
  dp : d.depth ≤ n
  ln : d.shown.length ≤ m
structure Shws (ds : List PyData) (n m : Nat) : Prop where
  ok : PyData.showableAll ds = true
  nd : PyData.hasDictAll ds = false
  dp : PyData.depthAll ds ≤ n
  ln : ((PyData.shownAll ds).map (·.length)).sum ≤ m
theorem Shws.nil {n m : Nat} : Shws [] n m := ⟨rfl, rfl, Nat.zero_le _, Nat.zero_le _⟩
theorem Shws.cons {d : PyData} {ds : List PyData} {n m m' : Nat} (h : Shw d n m) (hs : Shws ds n m') : Shws (d :: ds) n (m + m') :=
  ⟨by show (d.showable && PyData.showableAll ds) = true; rw [h.ok, hs.ok]; rfl, by show (d.hasDict || PyData.hasDictAll ds) = false; rw [h.nd, hs.nd]; rfl,
   by show max d.depth (PyData.depthAll ds) ≤ n; have := h.dp; have := hs.dp; omega, by show d.shown.length + ((PyData.shownAll ds).map (·.length)).sum ≤ m + m'; have := h.ln; have := hs.ln; omega⟩
theorem Shws.lst {ds : List PyData} {n m : Nat} (h : Shws ds n m) : Shw (.list ds) (n + 1) (m + 2 * ds.length + 3) :=
  ⟨h.ok, h.nd, by show PyData.depthAll ds + 1 ≤ n + 1; have := h.dp; omega, by
    have a := listText_len_le (PyData.shownAll ds)
    have b := PyData.shownAll_length ds
    have c := h.ln
    show (listText (PyData.shownAll ds)).length ≤ _
    omega⟩
theorem shw_int {n : Int} (h : InR n) : Shw (.int n) 0 11 := ⟨by
    show decide (n.natAbs.log2 < 1920) = true
    refine decide_eq_true ?_
    exact Nat.lt_of_lt_of_le (PySem.Flt.log2_lt_of (n := n.natAbs) (k := 34) (by decide) (by unfold InR at h; omega)) (by decide), rfl, Nat.le_refl _, by
    show (Str.ofString (toString n)).length ≤ 11
    have e := int_text_length_le10 (a := n) (k := 10) (by decide) (by unfold InR at h; omega)
    rw [PySem.ofString_length]; exact e⟩
theorem ints_shw {ns : List Int} (h : ∀ n ∈ ns, InR n) : Shws (ns.map .int) 0 (11 * ns.length) := by
  induction ns with
  | nil => exact Shws.nil
  | cons n r ih =>
    have := Shws.cons (shw_int (h n (List.mem_cons_self ..))) (ih fun m hm => h m (List.mem_cons_of_mem _ hm))
    rw [List.length_cons, Nat.mul_add, Nat.mul_one, Nat.add_comm]
    exact this
/-- few numbers -/
theorem nsd_shw {x : List Int} (h : x.length ≤ 100 ∧ ∀ n ∈ x, InR n) : Shw (nsd x) 1 1303 := by
  have a := (ints_shw h.2).lst
  rw [List.length_map] at a
  exact ⟨a.ok, a.nd, a.dp, Nat.le_trans a.ln (by omega)⟩
end K15

namespace K15
open PySem PySem.Spec PyProof.Rows L2
/-- what is kept but for the state of the draws -/
def Kp (st c : Addr) (H H' : Hp) : Prop := ∀ b o, b ≠ st → b ≠ c → H b = some o → H' b = some o
theorem Kp.rfl {st c : Addr} {H : Hp} : Kp st c H H := fun _ _ _ _ e => e
theorem Kp.trans {st c : Addr} {H H1 H2 : Hp} (x : Kp st c H H1) (y : Kp st c H1 H2) : Kp st c H H2 := fun b o h1 h2 e => y b o h1 h2 (x b o h1 h2 e)
theorem Kp.of {st c : Addr} {H H1 : Hp} (s : Same H H1) : Kp st c H H1 := fun b o _ _ e => s b o e
def Ls (st c : Addr) (H : Hp) (p : Addr) (ns : List Int) : Prop := H p = some (.lst (iv ns)) ∧ p ≠ st ∧ p ≠ c
theorem Ls.kp {st c p : Addr} {H H' : Hp} {ns : List Int} (h : Ls st c H p ns) (k : Kp st c H H') : Ls st c H' p ns := ⟨k _ _ h.2.1 h.2.2 h.1, h.2⟩
theorem Ls.seq {K : PySem.W.Frag} {st c p : Addr} {H : Hp} {ns : List Int} (h : Ls st c H p ns) : SqL K H p (iv ns) := SqL.of h.1
theorem St.new {st c p : Addr} {H : Hp} (s : StAt H st c) (n : H p = none) : p ≠ st ∧ p ≠ c := by
  obtain ⟨_, _, a, b⟩ := s
  exact ⟨(ne_of_none a n).symm, (ne_of_none b n).symm⟩
theorem St.put {st c p : Addr} {H : Hp} {o : HO} (s : StAt H st c) (n : p ≠ st ∧ p ≠ c) : StAt (upd H p o) st c := by
  obtain ⟨ns, z, a, b⟩ := s
  exact ⟨ns, z, by rw [upd_ne n.1.symm]; exact a, by rw [upd_ne n.2.symm]; exact b⟩
/-- one more drawn item -/
theorem Go.put {st c D : Addr} {H1 H4 : Hp} {o : HO} (g : Go st c H1 H4) (n : H1 D = none) (m : D ≠ st ∧ D ≠ c) : Go st c H1 (upd H4 D o) :=
  ⟨fun b o' h1 h2 e => by rw [upd_ne (ne_of_none e n)]; exact g.1 b o' h1 h2 e, St.put g.2 m⟩
/-! ### code -/
structure In where
  nm : Str
  ex : V
  ins : List Int
  out : Int
/-- register r holds, ahead of instruction k, a vector of as many numbers as there are lanes -/
def Sf (many : Nat) (code : List In) (k : Nat) (r : Int) : Prop := 0 ≤ r ∧ (r < many ∨ ∃ j, j < k ∧ r = many + (j : Int) ∧ ∀ y, code[j]? = some y → y.nm ≠ "join")
inductive InKind : In → Prop
  | fill (n r o : Int) (h : 0 ≤ n ∧ n ≤ 2) : InKind ⟨"fill", .int n, [r], o⟩
  | calc1 (k : Nat) (s : Str) (r q o : Int) (h : sgn[k]? = some s) (h5 : k ≠ 5) (h6 : k ≠ 6) : InKind ⟨"calc", .str s, [r, q], o⟩
  | flags (r o : Int) : InKind ⟨"flags", .non, [r], o⟩
  | range (r o : Int) : InKind ⟨"range", .non, [r], o⟩
  | same (r q o : Int) : InKind ⟨"same", .non, [r, q], o⟩
  | join (r q o : Int) : InKind ⟨"join", .non, [r, q], o⟩
structure Okc (many : Nat) (code : List In) : Prop where
  out : ∀ (k : Nat) (x : In), code[k]? = some x → x.out = many + (k : Int)
  ins : ∀ (k : Nat) (x : In), code[k]? = some x → ∀ r ∈ x.ins, Sf many code k r
  kind : ∀ x ∈ code, InKind x
def InAt (X : List Addr) (H : Hp) (x : In) (v : V) : Prop := ∃ t a b, v = .ref t ∧ H t = some (.tup [.str x.nm, x.ex, .ref a, .ref b]) ∧ H a = some (.lst (iv x.ins)) ∧ H b = some (.lst [.int x.out]) ∧ t ∉ X ∧ a ∉ X ∧ b ∉ X
def InsAt (X : List Addr) (H : Hp) : List In → List V → Prop
  | [], [] => True
  | x :: r, v :: vs => InAt X H x v ∧ InsAt X H r vs
  | _, _ => False
def Fr (X : List Addr) (H H' : Hp) : Prop := ∀ b o, b ∉ X → H b = some o → H' b = some o
theorem Fr.of {X : List Addr} {H H' : Hp} (s : Same H H') : Fr X H H' := fun b o _ e => s b o e
theorem Fr.go {X : List Addr} {st c : Addr} {H H' : Hp} (g : Kp st c H H') (h1 : st ∈ X) (h2 : c ∈ X) : Fr X H H' := fun b o n e => g b o (fun z => n (z ▸ h1)) (fun z => n (z ▸ h2)) e
theorem Fr.put {X : List Addr} {H : Hp} {p : Addr} {o : HO} (m : p ∈ X) : Fr X H (upd H p o) := fun b o' n e => by rw [upd_ne (fun z => n (by rw [z]; exact m))]; exact e
theorem InAt.fr {X : List Addr} {H H' : Hp} {x : In} {v : V} (h : InAt X H x v) (f : Fr X H H') : InAt X H' x v := by
  obtain ⟨t, a, b, e, h1, h2, h3, n1, n2, n3⟩ := h
  exact ⟨t, a, b, e, f _ _ n1 h1, f _ _ n2 h2, f _ _ n3 h3, n1, n2, n3⟩
theorem InsAt.fr {X : List Addr} {H H' : Hp} (f : Fr X H H') : ∀ {code : List In} {vs : List V}, InsAt X H code vs → InsAt X H' code vs
  | [], [], _ => trivial
  | _ :: _, _ :: _, ⟨a, b⟩ => ⟨a.fr f, b.fr f⟩
  | [], _ :: _, h => h.elim
  | _ :: _, [], h => h.elim
theorem InsAt.snoc {X : List Addr} {H : Hp} {x : In} {v : V} (h : InAt X H x v) : ∀ {code : List In} {vs : List V}, InsAt X H code vs → InsAt X H (code ++ [x]) (vs ++ [v])
  | [], [], _ => ⟨h, trivial⟩
  | _ :: _, _ :: _, ⟨a, b⟩ => ⟨a, b.snoc h⟩
  | [], _ :: _, h => h.elim
  | _ :: _, [], h => h.elim
theorem InsAt.len {X : List Addr} {H : Hp} : ∀ {code : List In} {vs : List V}, InsAt X H code vs → vs.length = code.length
  | [], [], _ => rfl
  | _ :: _, _ :: _, ⟨_, b⟩ => congrArg (· + 1) b.len
  | [], _ :: _, h => h.elim
  | _ :: _, [], h => h.elim
theorem InsAt.mem {X : List Addr} {H : Hp} {v : V} : ∀ {code : List In} {vs : List V}, InsAt X H code vs → v ∈ vs → ∃ (k : Nat) (x : In), code[k]? = some x ∧ vs[k]? = some v ∧ InAt X H x v
  | [], [], _, m => absurd m List.not_mem_nil
  | x :: r, w :: vs, ⟨a, b⟩, m => by
    rcases List.mem_cons.mp m with rfl | m
    · exact ⟨0, x, rfl, rfl, a⟩
    · obtain ⟨k, y, e1, e2, e3⟩ := b.mem m
      exact ⟨k + 1, y, e1, e2, e3⟩
  | [], _ :: _, h, _ => h.elim
  | _ :: _, [], h, _ => h.elim
theorem get_snoc {l : List In} {x y : In} {k : Nat} (h : (l ++ [x])[k]? = some y) : l[k]? = some y ∨ (k = l.length ∧ x = y) := by
  by_cases c : k < l.length
  · rw [List.getElem?_append_left c] at h; exact .inl h
  · rw [List.getElem?_append_right (by omega)] at h
    have lt := (List.getElem?_eq_some_iff.mp h).1
    have : k - l.length = 0 := by simp at lt; omega
    rw [this] at h
    exact .inr ⟨by omega, Option.some.inj h⟩
theorem Sf.mono {many : Nat} {code : List In} {x : In} {k k' : Nat} {r : Int} (h : Sf many code k r) (hk : k ≤ k') (hl : k ≤ code.length) : Sf many (code ++ [x]) k' r := by
  obtain ⟨h0, h | ⟨j, h1, h2, h3⟩⟩ := h
  · exact ⟨h0, .inl h⟩
  · exact ⟨h0, .inr ⟨j, by omega, h2, fun y hy => h3 y (by rw [List.getElem?_append_left (by omega)] at hy; exact hy)⟩⟩
theorem Okc.snoc {many : Nat} {code : List In} {x : In} (h : Okc many code) (ho : x.out = many + (code.length : Int)) (hi : ∀ r ∈ x.ins, Sf many code code.length r) (hk : InKind x) : Okc many (code ++ [x]) := by
  refine ⟨fun k y e => ?_, fun k y e r hr => ?_, fun y hy => ?_⟩
  · rcases get_snoc e with e | ⟨rfl, rfl⟩
    · exact h.out k y e
    · exact ho
  · rcases get_snoc e with e | ⟨rfl, rfl⟩
    · have lt := (List.getElem?_eq_some_iff.mp e).1
      exact (h.ins k y e r hr).mono (Nat.le_refl _) (by omega)
    · exact (hi r hr).mono (Nat.le_refl _) (Nat.le_refl _)
  · rcases List.mem_append.mp hy with hy | hy
    · exact h.kind y hy
    · rw [List.mem_singleton.mp hy]; exact hk
/-- the code that is being drawn: its list cp, the registers that may be read sp -/
structure GenAt (st c cp sp : Addr) (H0 H : Hp) (many : Nat) (code : List In) (safe : List Int) : Prop where
  cd : ∃ vs, H cp = some (.lst vs) ∧ InsAt [st, c, cp, sp] H code vs
  sa : H sp = some (.lst (iv safe))
  go : Go st c H0 H
  c0 : H0 cp = none
  s0 : H0 sp = none
  cs : cp ≠ sp
  cn : cp ≠ st ∧ cp ≠ c
  sn : sp ≠ st ∧ sp ≠ c
  ok : Okc many code
  sf : ∀ r ∈ safe, Sf many code code.length r
  nn : safe ≠ []
theorem GenAt.step {st c cp sp : Addr} {H0 H H' : Hp} {many : Nat} {code : List In} {safe : List Int} (h : GenAt st c cp sp H0 H many code safe) (g : Go st c H H') : GenAt st c cp sp H0 H' many code safe := by
  obtain ⟨vs, h1, h2⟩ := h.cd
  exact { h with cd := ⟨vs, g.1 _ _ h.cn.1 h.cn.2 h1, h2.fr (Fr.go g.1 (by simp) (by simp))⟩, sa := g.1 _ _ h.sn.1 h.sn.2 h.sa, go := h.go.trans g }
theorem GenAt.new {st c cp sp p : Addr} {H0 H : Hp} {many : Nat} {code : List In} {safe : List Int} {o : HO} (h : GenAt st c cp sp H0 H many code safe) (n : H p = none) : GenAt st c cp sp H0 (upd H p o) many code safe := h.step (Go.same h.go.2 (same_new n o))
/-- one more instruction -/
theorem GenAt.push {st c cp sp a b t : Addr} {H0 H : Hp} {many : Nat} {code : List In} {safe : List Int} {vs xs : List V} {x : In} (h : GenAt st c cp sp H0 H many code safe) (hx : xs = iv x.ins) (na : H a = none) (nb : (upd H a (.lst xs)) b = none) (nt : (upd (upd H a (.lst xs)) b (.lst [.int x.out])) t = none)
    (hv : (upd (upd (upd H a (.lst xs)) b (.lst [.int x.out])) t (.tup [.str x.nm, x.ex, .ref a, .ref b])) cp = some (.lst vs)) (ho : x.out = many + (code.length : Int)) (hi : ∀ r ∈ x.ins, Sf many code code.length r) (hk : InKind x) :
    GenAt st c cp sp H0 (upd (upd (upd (upd H a (.lst xs)) b (.lst [.int x.out])) t (.tup [.str x.nm, x.ex, .ref a, .ref b])) cp (.lst (vs ++ [.ref t]))) many (code ++ [x]) safe := by
  have h1 := h.new (o := .lst xs) na
  have h2 := h1.new (o := .lst [.int x.out]) nb
  have h3 := h2.new (o := .tup [.str x.nm, x.ex, .ref a, .ref b]) nt
  have fresh : ∀ {H : Hp} {p : Addr}, GenAt st c cp sp H0 H many code safe → H p = none → p ∉ [st, c, cp, sp] := fun {H p} g n m => by
    obtain ⟨_, _, e1, e2⟩ := id g.go.2
    obtain ⟨_, e3, _⟩ := g.cd
    simp only [List.mem_cons, List.not_mem_nil, or_false] at m
    rcases m with rfl | rfl | rfl | rfl
    · rw [n] at e1; cases e1
    · rw [n] at e2; cases e2
    · rw [n] at e3; cases e3
    · have := g.sa; rw [n] at this; cases this
  have fa := fresh h na
  have fb := fresh h1 nb
  have ft := fresh h2 nt
  obtain ⟨ws, e1, e2⟩ := h3.cd
  rw [hv] at e1
  obtain rfl : vs = ws := HO.lst.inj (Option.some.inj e1)
  have s1 := same_new na (.lst xs)
  have s2 := same_new nb (.lst [.int x.out])
  have s3 := same_new nt (.tup [.str x.nm, x.ex, .ref a, .ref b])
  have ia : InAt [st, c, cp, sp] (upd (upd (upd H a (.lst xs)) b (.lst [.int x.out])) t (.tup [.str x.nm, x.ex, .ref a, .ref b])) x (.ref t) := ⟨t, a, b, rfl, upd_same, by subst hx; exact s3 _ _ (s2 _ _ upd_same), s3 _ _ upd_same, ft, fa, fb⟩
  have fu : ∀ o, Fr [st, c, cp, sp] (upd (upd (upd H a (.lst xs)) b (.lst [.int x.out])) t (.tup [.str x.nm, x.ex, .ref a, .ref b])) (upd (upd (upd (upd H a (.lst xs)) b (.lst [.int x.out])) t (.tup [.str x.nm, x.ex, .ref a, .ref b])) cp o) := fun o => Fr.put (by simp)
  exact {
    c0 := h.c0, s0 := h.s0, cs := h.cs, cn := h.cn, sn := h.sn, nn := h.nn,
    cd := ⟨_, upd_same, (e2.fr (fu _)).snoc (ia.fr (fu _))⟩,
    sa := (by rw [upd_ne h.cs.symm]; exact h3.sa),
    go := Go.put h3.go h.c0 h.cn,
    ok := h.ok.snoc ho hi hk,
    sf := fun r hr => by rw [List.length_append]; exact (h.sf r hr).mono (by simp) (Nat.le_refl _) }
/-- one more register that may be read -/
theorem GenAt.safe {st c cp sp : Addr} {H0 H : Hp} {many : Nat} {code : List In} {safe : List Int} {r : Int} (h : GenAt st c cp sp H0 H many code safe) (hr : Sf many code code.length r) : GenAt st c cp sp H0 (upd H sp (.lst (iv safe ++ [.int r]))) many code (safe ++ [r]) := by
  obtain ⟨vs, e1, e2⟩ := h.cd
  exact { h with
    cd := ⟨vs, by rw [upd_ne h.cs]; exact e1, e2.fr (Fr.put (by simp))⟩,
    sa := (by rw [upd_same]; simp [iv]),
    go := Go.put h.go h.s0 h.sn,
    sf := (fun q hq => by
      rcases List.mem_append.mp hq with hq | hq
      · exact h.sf q hq
      · rw [List.mem_singleton.mp hq]; exact hr),
    nn := (by simp) }
end K15

namespace K15
open PySem PySem.Spec PyProof.Rows L2
def lb : Stmt → List Stmt
  | .For _ _ b _ _ => b
  | _ => []
theorem InKind.as {x : In} (h : InKind x) (o : Int) : InKind ⟨x.nm, x.ex, x.ins, o⟩ := by
  cases h with
  | fill n r o' h => exact .fill n r o h
  | calc1 k s r q o' h h5 h6 => exact .calc1 k s r q o h h5 h6
  | flags r o' => exact .flags r o
  | range r o' => exact .range r o
  | same r q o' => exact .same r q o
  | join r q o' => exact .join r q o
section
variable {P : Program} {w : World} {K : PySem.W.Frag} {mg : Str → Option Value} {base : Heap} {a : Ad}
theorem Sf.last {many : Nat} {code : List In} {x : In} (h : x.nm ≠ "join") : Sf many (code ++ [x]) (code ++ [x]).length ((many : Int) + (code.length : Int)) :=
  ⟨by omega, .inr ⟨code.length, by simp, rfl, fun y hy => by
    rcases get_snoc hy with e | ⟨_, rfl⟩
    · have := (List.getElem?_eq_some_iff.mp e).1; omega
    · exact h⟩⟩
theorem some_free0 {H H1 : Hp} {q : Addr} (s : Same H H1) (n : H1 q = none) : H q = none := by
  cases z : H q with
  | none => rfl
  | some o => have := s _ _ z; rw [n] at this; cases this
theorem code_tail (T : Txt w K mg a) {cdv : Value} {A : Around} {outer : List Env} {s : Shared} {H0 : Hp} {E : XK} (hr : Room 3 (A.deeper (envOfC "_law_code" (defScope s_law_code) s.heap.objs.size a.law_code.1 cdv))) :
    ∃ t, PSs (cxOf CX0 P w K mg base ["state", "many", "code", "k", "safe", "out", "name", "first", "second", "again"] "_law_code" (defScope s_law_code) a.law_code.1 cdv A outer s H0 E).nox ((lb ((defBody s_law_code).getD 3 (.Pass ⟨0, 0, 0, 0⟩))).drop 4) t ∧ ∀ (D : Ends) (st c cp sp : Addr) (HB H : Hp) (many : Nat) (code : List In) (safe : List Int) (o : Int) (v3 v6 v7 v8 v9 : Option V), GenAt st c cp sp HB H many code safe → o + 1 = many + (code.length : Int) → Sf many code code.length o → code ≠ [] → code.length ≤ 900 → safe.length ≤ 900 →
      (∀ (code' : List In) (safe' : List Int) (H' : Hp) (v9' : Option V), GenAt st c cp sp HB H' many code' safe' → code'.length ≤ code.length + 1 → safe'.length = safe.length + 1 → D.nx [some (.ref st), some (.int many), some (.ref cp), v3, some (.ref sp), some (.int (many + (code'.length : Int))), v6, v7, v8, v9'] H') →
      t D [some (.ref st), some (.int many), some (.ref cp), v3, some (.ref sp), some (.int o), v6, v7, v8, v9] H := by
  have nd := sc_law_code.nd
  have G_law_draw := ok_law_draw (P := P) (w := w) (base := base) T
  have G_law_pick := ok_law_pick (P := P) (w := w) (base := base) T
  refine ⟨_, (pss_cons (ps_expr (pe_bm PySem.F.plainAttrs_list PySem.F.slot_list_append PySem.F.type_list_append mt_append (pv 4) (pa_cons (pv 5) pa_nil)))
  (pss_cons (ps_set (i := 5) nd rfl (Or.inl rfl) (pe_op op_add (pv 5) pe_int))
  (pss_one (ps_if (PW.pt (pw_and (pt_cmpR op_eq (pe_call G_law_draw (hr.mono (by omega)) rfl T.law_draw.g T.law_draw.F.kp T.law_draw.b .nil pass0 (pa_cons (pv 0) (pa_cons pe_int pa_nil))) pe_int (nomark _)) (pw_and1 (pt_cmpR op_gt (pe_callB call_len_seq (by rfl) T.len PySem.boot_len (pa_cons (pv 2) pa_nil)) pe_int (nomark _))))) (pss_cons (ps_set (i := 9) nd rfl (Or.inl rfl) (pe_call G_law_pick (hr.mono (by omega)) rfl T.law_pick.g T.law_pick.F.kp T.law_pick.b .nil pass0 (pa_cons (pv 0) (pa_cons (pv 2) pa_nil))))
  (pss_cons (ps_expr (pe_bm PySem.F.plainAttrs_list PySem.F.slot_list_append PySem.F.type_list_append mt_append (pv 2) (pa_cons (pe_tup (pa_cons (pe_ix ix_tup (pv 9) pe_int (fun _ _ => rfl)) (pa_cons (pe_ix ix_tup (pv 9) pe_int (fun _ _ => rfl)) (pa_cons (pe_callTy call_list_of (by rfl) T.list (by decide +kernel) (pa_cons (pe_ix ix_tup (pv 9) pe_int (fun _ _ => rfl)) pa_nil)) (pa_cons (pe_lst (pa_cons (pv 5) pa_nil)) pa_nil))))) pa_nil)))
  (pss_one (ps_set (i := 5) nd rfl (Or.inl rfl) (pe_op op_add (pv 5) pe_int))))) pss_nil)))), ?_⟩
  intro D st c cp sp HB H many code safe o v3 v6 v7 v8 v9 h ho hs hne hc9 hs9 fin
  refine ⟨_, rfl, .inl ⟨rfl, _, SqL.of h.sa⟩, _, rfl, sp, _, _, rfl, rfl, h.sa, by rw [iv_len]; exact small1000 (by omega), ?_⟩
  have h1 := h.safe hs
  generalize (upd H sp (.lst (iv safe ++ [.int o]))) = H1 at h1 ⊢
  refine ⟨_, rfl, _, _, rfl, rfl, ?_⟩
  refine ⟨_, rfl, st, c, 4, rfl, h1.go.2, by decide, by decide, fun H2 n g2 _ _ => ?_⟩
  have h2 := h1.step g2
  obtain ⟨vs, hc, hi⟩ := h2.cd
  have hl := hi.len
  refine ⟨rfl, _, rfl, ?_⟩
  by_cases c0 : n = 0
  · refine iteT' (by rw [c0]; decide) ?_
    have cpos : 0 < code.length := List.length_pos_iff.mpr hne
    refine ⟨_, rfl, cp, _, rfl, .inl (SqL.of hc), _, _, rfl, rfl, _, rfl, ?_⟩
    refine ifT (decide_eq_true (by omega)) ?_
    refine ⟨_, rfl, _, rfl, st, c, cp, vs, rfl, h2.go.2, hc, h2.cn.1, h2.cn.2, by omega, by omega, fun H3 x g3 hx => ?_⟩
    have h3 := h2.step g3
    obtain ⟨vs3, hc3, hi3⟩ := h3.cd
    have hc3' := g3.1 _ _ h2.cn.1 h2.cn.2 hc
    rw [hc3] at hc3'
    obtain rfl : vs3 = vs := HO.lst.inj (Option.some.inj hc3')
    obtain ⟨k, xi, ek, _, t, aa, bb, rfl, ht, ha, hb, _⟩ := hi3.mem hx
    refine ⟨_, rfl, .inl ⟨rfl, _, SqL.of hc3⟩, ?_⟩
    refine ⟨_, rfl, t, _, _, _, rfl, rfl, .inl (.inl ht), atI_nat (j := 0) rfl, _, rfl, t, _, _, _, rfl, rfl, .inl (.inl ht), atI_nat (j := 1) rfl, _, rfl, t, _, _, _, rfl, rfl, .inl (.inl ht), atI_nat (j := 2) rfl, aa, _, rfl, .inl (SqL.of ha), fun l nl => ?_⟩
    refine ⟨_, rfl, (by show 1 ≤ sizeLine; decide), fun b nb => ⟨(by show 4 ≤ sizeLine; decide), fun t2 nt => ?_⟩⟩
    have hc4 := (same_new nt (.tup [.str xi.nm, xi.ex, .ref l, .ref b])) _ _ ((same_new nb (.lst [V.int (o + 1)])) _ _ ((same_new nl (.lst (iv xi.ins))) _ _ hc3))
    refine ⟨cp, _, _, rfl, rfl, hc4, small1000 (by omega), ?_⟩
    have h5 := h3.push (x := ⟨xi.nm, xi.ex, xi.ins, o + 1⟩) rfl nl nb nt hc4 ho (fun r hr => by
      have lt := (List.getElem?_eq_some_iff.mp ek).1
      have := (h3.ok.ins k xi ek r hr)
      obtain ⟨z0, z | ⟨j, z1, z2, z3⟩⟩ := this
      · exact ⟨z0, .inl z⟩
      · exact ⟨z0, .inr ⟨j, by omega, z2, z3⟩⟩) ((h3.ok.kind xi (List.mem_of_getElem? ek)).as _)
    refine ⟨_, rfl, _, _, rfl, rfl, ?_⟩
    have := fin _ _ _ (some (.ref t)) h5 (by simp) (by simp)
    rw [List.length_append, List.length_singleton, show (many : Int) + ((code.length + 1 : Nat) : Int) = o + 1 + 1 by omega] at this
    exact this
  · refine iteF' (by simpa using c0) ?_
    have := fin _ _ _ v9 h2 (by omega) (by simp)
    rw [← ho] at this
    exact this
/-- what the def gives: code and the registers that may be read -/
def spCode : Sp := fun vs H Q _ => ∃ (st c : Addr) (many : Nat), vs = [.ref st, .int many] ∧ 1 ≤ many ∧ many ≤ 10 ∧ StAt H st c ∧
  ∀ (H' : Hp) (q cp sp : Addr) (code : List In) (safe : List Int), GenAt st c cp sp H H' many code safe → code.length ≤ 36 → safe.length ≤ 30 → q ≠ st → q ≠ c → H q = none → H' q = some (.lst [.ref cp, .ref sp]) → Q (.ref q) H'
theorem ok_law_code (T : Txt w K mg a) : FnOk P w K mg base CX0 4 a.law_code.1 a.law_code.2 ["state", "many"] spCode := by
  refine T.law_code.F.ok sc_law_code (fun vs H Q E h => ?_) (fun cdv A outer s H vs Q E hr h => ?_)
  · obtain ⟨_, _, _, rfl, _⟩ := h
    rfl
  obtain ⟨st, c, many, rfl, m1, m10, hS, q⟩ := h
  have nd := sc_law_code.nd
  have G_law_draw := ok_law_draw (P := P) (w := w) (base := base) T
  have G_law_pick := ok_law_pick (P := P) (w := w) (base := base) T
  obtain ⟨tT, hT, qT⟩ := code_tail (P := P) (base := base) T (cdv := cdv) (A := A) (outer := outer) (s := s) (H0 := H) (E := E) hr
  refine ⟨_, (pss_cons (ps_set (i := 2) nd rfl (Or.inl rfl) (pe_lst pa_nil))
  (pss_cons (ps_setLc (i := 4) (own := [("k", 3)]) (g := gName 3) (tt := tYes) rfl nd rfl rfl (sw_true rfl rfl rfl (by decide +kernel)) (pi_range1 rfl T.range (pa_cons (pv 1) pa_nil)) (blkOk_by (N := ["state", "many", "code", "k", "safe", "out", "name", "first", "second", "again"]) (sc := defScope s_law_code) (by decide +kernel)) (fun _ _ _ _ _ => (pg_name (i := 3) nd rfl (Or.inl rfl))) (fun _ _ _ _ _ => pts_nil) (fun _ _ _ _ _ => (pv 3)))
  (pss_cons (ps_set (i := 5) nd rfl (Or.inl rfl) (pv 1))
  (pss_cons (ps_for PassesOwn.never rfl (pi_range1 rfl T.range (pa_cons (pe_call G_law_draw (hr.mono (by omega)) rfl T.law_draw.g T.law_draw.F.kp T.law_draw.b .nil pass0 (pa_cons (pv 0) (pa_cons pe_int pa_nil))) pa_nil)) (pg_name (i := 3) nd rfl (Or.inl rfl)) (pss_cons (ps_set (i := 6) nd rfl (Or.inl rfl) (pe_call G_law_pick (hr.mono (by omega)) rfl T.law_pick.g T.law_pick.F.kp T.law_pick.b .nil pass0 (pa_cons (pv 0) (pa_cons (pe_lst (pa_cons pe_str (pa_cons pe_str (pa_cons pe_str (pa_cons pe_str (pa_cons pe_str (pa_cons pe_str (pa_cons pe_str (pa_cons pe_str (pa_cons pe_str pa_nil)))))))))) pa_nil))))
  (pss_cons (ps_set (i := 7) nd rfl (Or.inl rfl) (pe_call G_law_pick (hr.mono (by omega)) rfl T.law_pick.g T.law_pick.F.kp T.law_pick.b .nil pass0 (pa_cons (pv 0) (pa_cons (pv 4) pa_nil))))
  (pss_cons (ps_set (i := 8) nd rfl (Or.inl rfl) (pe_call G_law_pick (hr.mono (by omega)) rfl T.law_pick.g T.law_pick.F.kp T.law_pick.b .nil pass0 (pa_cons (pv 0) (pa_cons (pv 4) pa_nil))))
  (pss_cons (ps_if (pt_cmpR op_eq (pv 6) pe_str (nomark _)) (pss_one (ps_expr (pe_bm PySem.F.plainAttrs_list PySem.F.slot_list_append PySem.F.type_list_append mt_append (pv 2) (pa_cons (pe_tup (pa_cons pe_str (pa_cons (pe_call G_law_draw (hr.mono (by omega)) rfl T.law_draw.g T.law_draw.F.kp T.law_draw.b .nil pass0 (pa_cons (pv 0) (pa_cons pe_int pa_nil))) (pa_cons (pe_lst (pa_cons (pv 7) pa_nil)) (pa_cons (pe_lst (pa_cons (pv 5) pa_nil)) pa_nil))))) pa_nil)))) (pss_one (ps_if (pt_cmpR op_eq (pv 6) pe_str (nomark _)) (pss_one (ps_expr (pe_bm PySem.F.plainAttrs_list PySem.F.slot_list_append PySem.F.type_list_append mt_append (pv 2) (pa_cons (pe_tup (pa_cons pe_str (pa_cons (pe_call G_law_pick (hr.mono (by omega)) rfl T.law_pick.g T.law_pick.F.kp T.law_pick.b .nil pass0 (pa_cons (pv 0) (pa_cons (pe_lst (pa_cons pe_str (pa_cons pe_str (pa_cons pe_str (pa_cons pe_str (pa_cons pe_str pa_nil)))))) pa_nil))) (pa_cons (pe_lst (pa_cons (pv 7) (pa_cons (pv 8) pa_nil))) (pa_cons (pe_lst (pa_cons (pv 5) pa_nil)) pa_nil))))) pa_nil)))) (pss_one (ps_if (pt_cmpR op_eq (pv 6) pe_str (nomark _)) (pss_one (ps_expr (pe_bm PySem.F.plainAttrs_list PySem.F.slot_list_append PySem.F.type_list_append mt_append (pv 2) (pa_cons (pe_tup (pa_cons pe_str (pa_cons (pe_call G_law_pick (hr.mono (by omega)) rfl T.law_pick.g T.law_pick.F.kp T.law_pick.b .nil pass0 (pa_cons (pv 0) (pa_cons (pe_lst (pa_cons pe_str (pa_cons pe_str pa_nil))) pa_nil))) (pa_cons (pe_lst (pa_cons (pv 7) (pa_cons (pv 8) pa_nil))) (pa_cons (pe_lst (pa_cons (pv 5) pa_nil)) pa_nil))))) pa_nil)))) (pss_one (ps_if (pt_cmpR op_eq (pv 6) pe_str (nomark _)) (pss_cons (ps_expr (pe_bm PySem.F.plainAttrs_list PySem.F.slot_list_append PySem.F.type_list_append mt_append (pv 2) (pa_cons (pe_tup (pa_cons pe_str (pa_cons pe_non (pa_cons (pe_lst (pa_cons (pv 7) (pa_cons (pv 8) pa_nil))) (pa_cons (pe_lst (pa_cons (pv 5) pa_nil)) pa_nil))))) pa_nil)))
  (pss_cons (ps_expr (pe_bm PySem.F.plainAttrs_list PySem.F.slot_list_append PySem.F.type_list_append mt_append (pv 2) (pa_cons (pe_tup (pa_cons pe_str (pa_cons pe_int (pa_cons (pe_lst (pa_cons (pv 7) pa_nil)) (pa_cons (pe_lst (pa_cons (pe_op op_add (pv 5) pe_int) pa_nil)) pa_nil))))) pa_nil)))
  (pss_one (ps_set (i := 5) nd rfl (Or.inl rfl) (pe_op op_add (pv 5) pe_int))))) (pss_one (ps_if (pt_cmpR op_eq (pv 6) pe_str (nomark _)) (pss_one (ps_expr (pe_bm PySem.F.plainAttrs_list PySem.F.slot_list_append PySem.F.type_list_append mt_append (pv 2) (pa_cons (pe_tup (pa_cons pe_str (pa_cons pe_non (pa_cons (pe_lst (pa_cons (pv 7) (pa_cons (pv 8) pa_nil))) (pa_cons (pe_lst (pa_cons (pv 5) pa_nil)) pa_nil))))) pa_nil)))) (pss_one (ps_expr (pe_bm PySem.F.plainAttrs_list PySem.F.slot_list_append PySem.F.type_list_append mt_append (pv 2) (pa_cons (pe_tup (pa_cons (pv 6) (pa_cons pe_non (pa_cons (pe_lst (pa_cons (pv 7) pa_nil)) (pa_cons (pe_lst (pa_cons (pv 5) pa_nil)) pa_nil))))) pa_nil)))))))))))))
  hT)))))
  (pss_one (ps_ret (pe_lst (pa_cons (pv 2) (pa_cons (pv 4) pa_nil))))))))), ?_⟩
  refine ⟨(by show 0 ≤ sizeLine; decide), fun cp ncp => ?_⟩
  have s1 := same_new ncp (.lst [])
  have n1 := St.new hS ncp
  have S1 := St.put hS n1 (o := .lst [])
  refine ⟨_, rfl, _, rfl, by omega, by omega, fun sp nsp => lc_it (walk_range (lo := 0) (n := (many : Int).toNat)) (fun i H2 => Same (upd H cp (.lst [])) H2 ∧ H2 sp = some (.lst (iv ((List.range i).map fun (k : Nat) => 0 + (k : Int))))) ⟨same_new nsp _, upd_same⟩ (fun _ _ _ _ => trivial) ?_ ?_⟩
  · rintro i x H2 H3 hi ⟨sm, hD⟩ ⟨rfl, rfl⟩
    refine ⟨rfl, _, rfl, tick sm nsp hD (fun _ _ e => e) (mapR (fun k => 0 + (k : Int)) i) ?_⟩
    rw [iv_len, List.length_map, List.length_range]; unfold NN; omega
  rintro H2 ⟨s2, hsp⟩
  have nsp2 := St.new S1 nsp
  have S2 := S1.keep s2
  have g0 : GenAt st c cp sp H H2 many [] ((List.range many).map fun (k : Nat) => 0 + (k : Int)) := {
    cd := ⟨[], s2 _ _ upd_same, trivial⟩,
    sa := hsp,
    go := ⟨fun b o _ _ e => s2 _ _ (s1 _ _ e), S2⟩,
    c0 := ncp, s0 := some_free0 s1 nsp, cs := (ne_of_none upd_same nsp), cn := n1, sn := nsp2,
    ok := ⟨fun k x e => (by simp at e), fun k x e => (by simp at e), fun x hx => absurd hx List.not_mem_nil⟩,
    sf := fun r hr => (by
      obtain ⟨k, hk, rfl⟩ := List.mem_map.mp hr
      have := List.mem_range.mp hk
      exact ⟨by omega, .inl (by omega)⟩),
    nn := fun z => (by
      have := congrArg List.length z
      simp at this
      omega) }
  refine ⟨_, rfl, ?_⟩
  refine ⟨_, rfl, st, c, 12, rfl, S2, by decide, by decide, fun H3 m g3 m0 m2 => ?_⟩
  refine ⟨_, rfl, by omega, by omega, for_it (walk_range (lo := 0) (n := m.toNat)) (fun i σ H4 => ∃ (code : List In) (safe : List Int) (v3 v6 v7 v8 v9 : Option V), σ = [some (.ref st), some (.int many), some (.ref cp), v3, some (.ref sp), some (.int (many + (code.length : Int))), v6, v7, v8, v9] ∧ GenAt st c cp sp H H4 many code safe ∧ code.length ≤ 3 * i ∧ safe.length ≤ many + i) ⟨[], _, none, none, none, none, none, rfl, g0.step g3, by simp, by simp⟩ (fun _ _ _ _ _ => trivial) ?_ ?_⟩
  · rintro i x σ Hx H4 hi ⟨code, safe, v3, v6, v7, v8, v9, rfl, h4, l3, ls⟩ ⟨rfl, rfl⟩
    have ll : code.length ≤ 33 := by omega
    refine ⟨_, rfl, (by show 9 ≤ sizeLine; decide), fun p hp => ?_⟩
    have hS4 := h4.go.2
    have np := St.new hS4 hp
    have h5 := h4.new (o := .lst [.str "fill", .str "calc", .str "calc", .str "flags", .str "range", .str "same", .str "join", .str "calc", .str "div"]) hp
    refine ⟨st, c, p, _, rfl, h5.go.2, upd_same, np.1, np.2, by decide, by decide, fun H6 nm g6 hnm => ?_⟩
    have h6 := h5.step g6
    refine ⟨_, rfl, _, rfl, st, c, sp, iv safe, rfl, h6.go.2, h6.sa, h6.sn.1, h6.sn.2, by rw [iv_len]; exact List.length_pos_iff.mpr h6.nn, by rw [iv_len]; omega, fun H7 x7 g7 hx7 => ?_⟩
    have h7 := h6.step g7
    obtain ⟨r, hr7, rfl⟩ := List.mem_map.mp hx7
    refine ⟨_, rfl, _, rfl, st, c, sp, iv safe, rfl, h7.go.2, h7.sa, h7.sn.1, h7.sn.2, by rw [iv_len]; exact List.length_pos_iff.mpr h7.nn, by rw [iv_len]; omega, fun H8 x8 g8 hx8 => ?_⟩
    have h8 := h7.step g8
    obtain ⟨r2, hr8, rfl⟩ := List.mem_map.mp hx8
    have f1 := h8.sf r hr7
    have f2 := h8.sf r2 hr8
    clear h4 h5 h6 h7
    obtain ⟨vs, hc, hi⟩ := h8.cd
    have hl := hi.len
    simp only [List.mem_cons, List.not_mem_nil, or_false] at hnm
    rcases hnm with rfl | rfl | rfl | rfl | rfl | rfl | rfl | rfl | rfl
    · refine ⟨_, rfl, rfl, _, rfl, ?_⟩
      refine ifT (by decide +kernel) ?_
      refine ⟨_, rfl, .inl ⟨rfl, _, SqL.of hc⟩, ?_⟩
      refine ⟨_, rfl, st, c, 3, rfl, h8.go.2, by decide, by decide, fun H9 n g9 n0 n2 => ?_⟩
      have h9 := h8.step g9
      have hc9 := g9.1 _ _ h8.cn.1 h8.cn.2 hc
      refine ⟨_, rfl, (by show 1 ≤ sizeLine; decide), fun l nl => ⟨_, rfl, (by show 1 ≤ sizeLine; decide), fun b nb => ⟨(by show 4 ≤ sizeLine; decide), fun t nt => ?_⟩⟩⟩
      have hc4 := (same_new nt (.tup [.str "fill", .int n, .ref l, .ref b])) _ _ ((same_new nb (.lst [V.int ((many : Int) + (code.length : Int))])) _ _ ((same_new nl (.lst [V.int r])) _ _ hc9))
      refine ⟨cp, _, _, rfl, rfl, hc4, small1000 (by omega), ?_⟩
      have hA := h9.push (x := ⟨"fill", .int n, [r], (many : Int) + (code.length : Int)⟩) rfl nl nb nt hc4 (rfl) (by simp only [List.mem_cons, List.not_mem_nil, or_false, forall_eq_or_imp, forall_eq]; exact f1) (.fill n r _ ⟨n0, by omega⟩)
      exact qT _ st c cp sp H _ many _ safe _ _ _ _ _ _ hA (by rw [List.length_append, List.length_singleton]; omega) (Sf.last (show ("fill" : Str) ≠ "join" by decide +kernel)) (by simp) (by simp; omega) (by omega) (fun code' safe' H' v9' h' l' ls' => ⟨code', safe', _, _, _, _, _, rfl, h', by simp at l'; omega, by omega⟩)
    · refine ⟨_, rfl, rfl, _, rfl, ?_⟩
      refine ifF (by decide +kernel) ?_
      refine ⟨_, rfl, rfl, _, rfl, ?_⟩
      refine ifT (by decide +kernel) ?_
      refine ⟨_, rfl, .inl ⟨rfl, _, SqL.of hc⟩, ?_⟩
      refine ⟨_, rfl, (by show 5 ≤ sizeLine; decide), fun p2 hp2 => ?_⟩
      have np2 := St.new h8.go.2 hp2
      have h9 := h8.new (o := .lst [.str "+", .str "-", .str "*", .str "<", .str "="]) hp2
      have hc9 := (same_new hp2 (.lst [.str "+", .str "-", .str "*", .str "<", .str "="])) _ _ hc
      refine ⟨st, c, p2, _, rfl, h9.go.2, upd_same, np2.1, np2.2, by decide, by decide, fun HA sg gA hsg => ?_⟩
      have h10 := h9.step gA
      have hc10 := gA.1 _ _ h9.cn.1 h9.cn.2 hc9
      obtain ⟨k, sn, rfl, hk, k5, k6⟩ : ∃ (k : Nat) (sn : Str), sg = .str sn ∧ sgn[k]? = some sn ∧ k ≠ 5 ∧ k ≠ 6 := by
        simp only [List.mem_cons, List.not_mem_nil, or_false] at hsg
        rcases hsg with rfl | rfl | rfl | rfl | rfl
        · exact ⟨0, _, rfl, rfl, by decide, by decide⟩
        · exact ⟨1, _, rfl, rfl, by decide, by decide⟩
        · exact ⟨2, _, rfl, rfl, by decide, by decide⟩
        · exact ⟨7, _, rfl, rfl, by decide, by decide⟩
        · exact ⟨8, _, rfl, rfl, by decide, by decide⟩
      refine ⟨_, rfl, _, rfl, (by show 2 ≤ sizeLine; decide), fun l nl => ⟨_, rfl, (by show 1 ≤ sizeLine; decide), fun b nb => ⟨(by show 4 ≤ sizeLine; decide), fun t nt => ?_⟩⟩⟩
      have hc4 := (same_new nt (.tup [.str "calc", .str sn, .ref l, .ref b])) _ _ ((same_new nb (.lst [V.int ((many : Int) + (code.length : Int))])) _ _ ((same_new nl (.lst [V.int r, V.int r2])) _ _ hc10))
      refine ⟨cp, _, _, rfl, rfl, hc4, small1000 (by omega), ?_⟩
      have hA := h10.push (x := ⟨"calc", .str sn, [r, r2], (many : Int) + (code.length : Int)⟩) rfl nl nb nt hc4 (rfl) (by simp only [List.mem_cons, List.not_mem_nil, or_false, forall_eq_or_imp, forall_eq]; exact ⟨f1, f2⟩) (.calc1 k sn r r2 _ hk k5 k6)
      exact qT _ st c cp sp H _ many _ safe _ _ _ _ _ _ hA (by rw [List.length_append, List.length_singleton]; omega) (Sf.last (show ("calc" : Str) ≠ "join" by decide +kernel)) (by simp) (by simp; omega) (by omega) (fun code' safe' H' v9' h' l' ls' => ⟨code', safe', _, _, _, _, _, rfl, h', by simp at l'; omega, by omega⟩)
    · refine ⟨_, rfl, rfl, _, rfl, ?_⟩
      refine ifF (by decide +kernel) ?_
      refine ⟨_, rfl, rfl, _, rfl, ?_⟩
      refine ifT (by decide +kernel) ?_
      refine ⟨_, rfl, .inl ⟨rfl, _, SqL.of hc⟩, ?_⟩
      refine ⟨_, rfl, (by show 5 ≤ sizeLine; decide), fun p2 hp2 => ?_⟩
      have np2 := St.new h8.go.2 hp2
      have h9 := h8.new (o := .lst [.str "+", .str "-", .str "*", .str "<", .str "="]) hp2
      have hc9 := (same_new hp2 (.lst [.str "+", .str "-", .str "*", .str "<", .str "="])) _ _ hc
      refine ⟨st, c, p2, _, rfl, h9.go.2, upd_same, np2.1, np2.2, by decide, by decide, fun HA sg gA hsg => ?_⟩
      have h10 := h9.step gA
      have hc10 := gA.1 _ _ h9.cn.1 h9.cn.2 hc9
      obtain ⟨k, sn, rfl, hk, k5, k6⟩ : ∃ (k : Nat) (sn : Str), sg = .str sn ∧ sgn[k]? = some sn ∧ k ≠ 5 ∧ k ≠ 6 := by
        simp only [List.mem_cons, List.not_mem_nil, or_false] at hsg
        rcases hsg with rfl | rfl | rfl | rfl | rfl
        · exact ⟨0, _, rfl, rfl, by decide, by decide⟩
        · exact ⟨1, _, rfl, rfl, by decide, by decide⟩
        · exact ⟨2, _, rfl, rfl, by decide, by decide⟩
        · exact ⟨7, _, rfl, rfl, by decide, by decide⟩
        · exact ⟨8, _, rfl, rfl, by decide, by decide⟩
      refine ⟨_, rfl, _, rfl, (by show 2 ≤ sizeLine; decide), fun l nl => ⟨_, rfl, (by show 1 ≤ sizeLine; decide), fun b nb => ⟨(by show 4 ≤ sizeLine; decide), fun t nt => ?_⟩⟩⟩
      have hc4 := (same_new nt (.tup [.str "calc", .str sn, .ref l, .ref b])) _ _ ((same_new nb (.lst [V.int ((many : Int) + (code.length : Int))])) _ _ ((same_new nl (.lst [V.int r, V.int r2])) _ _ hc10))
      refine ⟨cp, _, _, rfl, rfl, hc4, small1000 (by omega), ?_⟩
      have hA := h10.push (x := ⟨"calc", .str sn, [r, r2], (many : Int) + (code.length : Int)⟩) rfl nl nb nt hc4 (rfl) (by simp only [List.mem_cons, List.not_mem_nil, or_false, forall_eq_or_imp, forall_eq]; exact ⟨f1, f2⟩) (.calc1 k sn r r2 _ hk k5 k6)
      exact qT _ st c cp sp H _ many _ safe _ _ _ _ _ _ hA (by rw [List.length_append, List.length_singleton]; omega) (Sf.last (show ("calc" : Str) ≠ "join" by decide +kernel)) (by simp) (by simp; omega) (by omega) (fun code' safe' H' v9' h' l' ls' => ⟨code', safe', _, _, _, _, _, rfl, h', by simp at l'; omega, by omega⟩)
    · refine ⟨_, rfl, rfl, _, rfl, ?_⟩
      refine ifF (by decide +kernel) ?_
      refine ⟨_, rfl, rfl, _, rfl, ?_⟩
      refine ifF (by decide +kernel) ?_
      refine ⟨_, rfl, rfl, _, rfl, ?_⟩
      refine ifF (by decide +kernel) ?_
      refine ⟨_, rfl, rfl, _, rfl, ?_⟩
      refine ifF (by decide +kernel) ?_
      refine ⟨_, rfl, rfl, _, rfl, ?_⟩
      refine ifF (by decide +kernel) ?_
      refine ⟨_, rfl, .inl ⟨rfl, _, SqL.of hc⟩, _, rfl, ?_⟩
      refine ⟨_, rfl, (by show 1 ≤ sizeLine; decide), fun l nl => ⟨_, rfl, (by show 1 ≤ sizeLine; decide), fun b nb => ⟨(by show 4 ≤ sizeLine; decide), fun t nt => ?_⟩⟩⟩
      have hc4 := (same_new nt (.tup [.str "flags", .non, .ref l, .ref b])) _ _ ((same_new nb (.lst [V.int ((many : Int) + (code.length : Int))])) _ _ ((same_new nl (.lst [V.int r])) _ _ hc))
      refine ⟨cp, _, _, rfl, rfl, hc4, small1000 (by omega), ?_⟩
      have hA := h8.push (x := ⟨"flags", .non, [r], (many : Int) + (code.length : Int)⟩) rfl nl nb nt hc4 (rfl) (by simp only [List.mem_cons, List.not_mem_nil, or_false, forall_eq_or_imp, forall_eq]; exact f1) (.flags r _)
      exact qT _ st c cp sp H _ many _ safe _ _ _ _ _ _ hA (by rw [List.length_append, List.length_singleton]; omega) (Sf.last (show ("flags" : Str) ≠ "join" by decide +kernel)) (by simp) (by simp; omega) (by omega) (fun code' safe' H' v9' h' l' ls' => ⟨code', safe', _, _, _, _, _, rfl, h', by simp at l'; omega, by omega⟩)
    · refine ⟨_, rfl, rfl, _, rfl, ?_⟩
      refine ifF (by decide +kernel) ?_
      refine ⟨_, rfl, rfl, _, rfl, ?_⟩
      refine ifF (by decide +kernel) ?_
      refine ⟨_, rfl, rfl, _, rfl, ?_⟩
      refine ifF (by decide +kernel) ?_
      refine ⟨_, rfl, rfl, _, rfl, ?_⟩
      refine ifF (by decide +kernel) ?_
      refine ⟨_, rfl, rfl, _, rfl, ?_⟩
      refine ifF (by decide +kernel) ?_
      refine ⟨_, rfl, .inl ⟨rfl, _, SqL.of hc⟩, _, rfl, ?_⟩
      refine ⟨_, rfl, (by show 1 ≤ sizeLine; decide), fun l nl => ⟨_, rfl, (by show 1 ≤ sizeLine; decide), fun b nb => ⟨(by show 4 ≤ sizeLine; decide), fun t nt => ?_⟩⟩⟩
      have hc4 := (same_new nt (.tup [.str "range", .non, .ref l, .ref b])) _ _ ((same_new nb (.lst [V.int ((many : Int) + (code.length : Int))])) _ _ ((same_new nl (.lst [V.int r])) _ _ hc))
      refine ⟨cp, _, _, rfl, rfl, hc4, small1000 (by omega), ?_⟩
      have hA := h8.push (x := ⟨"range", .non, [r], (many : Int) + (code.length : Int)⟩) rfl nl nb nt hc4 (rfl) (by simp only [List.mem_cons, List.not_mem_nil, or_false, forall_eq_or_imp, forall_eq]; exact f1) (.range r _)
      exact qT _ st c cp sp H _ many _ safe _ _ _ _ _ _ hA (by rw [List.length_append, List.length_singleton]; omega) (Sf.last (show ("range" : Str) ≠ "join" by decide +kernel)) (by simp) (by simp; omega) (by omega) (fun code' safe' H' v9' h' l' ls' => ⟨code', safe', _, _, _, _, _, rfl, h', by simp at l'; omega, by omega⟩)
    · refine ⟨_, rfl, rfl, _, rfl, ?_⟩
      refine ifF (by decide +kernel) ?_
      refine ⟨_, rfl, rfl, _, rfl, ?_⟩
      refine ifF (by decide +kernel) ?_
      refine ⟨_, rfl, rfl, _, rfl, ?_⟩
      refine ifF (by decide +kernel) ?_
      refine ⟨_, rfl, rfl, _, rfl, ?_⟩
      refine ifF (by decide +kernel) ?_
      refine ⟨_, rfl, rfl, _, rfl, ?_⟩
      refine ifT (by decide +kernel) ?_
      refine ⟨_, rfl, .inl ⟨rfl, _, SqL.of hc⟩, ?_⟩
      refine ⟨_, rfl, _, rfl, (by show 2 ≤ sizeLine; decide), fun l nl => ⟨_, rfl, (by show 1 ≤ sizeLine; decide), fun b nb => ⟨(by show 4 ≤ sizeLine; decide), fun t nt => ?_⟩⟩⟩
      have hc4 := (same_new nt (.tup [.str "same", .non, .ref l, .ref b])) _ _ ((same_new nb (.lst [V.int ((many : Int) + (code.length : Int))])) _ _ ((same_new nl (.lst [V.int r, V.int r2])) _ _ hc))
      refine ⟨cp, _, _, rfl, rfl, hc4, small1000 (by omega), ?_⟩
      have hA := h8.push (x := ⟨"same", .non, [r, r2], (many : Int) + (code.length : Int)⟩) rfl nl nb nt hc4 (rfl) (by simp only [List.mem_cons, List.not_mem_nil, or_false, forall_eq_or_imp, forall_eq]; exact ⟨f1, f2⟩) (.same r r2 _)
      exact qT _ st c cp sp H _ many _ safe _ _ _ _ _ _ hA (by rw [List.length_append, List.length_singleton]; omega) (Sf.last (show ("same" : Str) ≠ "join" by decide +kernel)) (by simp) (by simp; omega) (by omega) (fun code' safe' H' v9' h' l' ls' => ⟨code', safe', _, _, _, _, _, rfl, h', by simp at l'; omega, by omega⟩)
    · refine ⟨_, rfl, rfl, _, rfl, ?_⟩
      refine ifF (by decide +kernel) ?_
      refine ⟨_, rfl, rfl, _, rfl, ?_⟩
      refine ifF (by decide +kernel) ?_
      refine ⟨_, rfl, rfl, _, rfl, ?_⟩
      refine ifF (by decide +kernel) ?_
      refine ⟨_, rfl, rfl, _, rfl, ?_⟩
      refine ifT (by decide +kernel) ?_
      refine ⟨_, rfl, .inl ⟨rfl, _, SqL.of hc⟩, ?_⟩
      refine ⟨_, rfl, _, rfl, (by show 2 ≤ sizeLine; decide), fun l nl => ⟨_, rfl, (by show 1 ≤ sizeLine; decide), fun b nb => ⟨(by show 4 ≤ sizeLine; decide), fun t nt => ?_⟩⟩⟩
      have hc4 := (same_new nt (.tup [.str "join", .non, .ref l, .ref b])) _ _ ((same_new nb (.lst [V.int ((many : Int) + (code.length : Int))])) _ _ ((same_new nl (.lst [V.int r, V.int r2])) _ _ hc))
      refine ⟨cp, _, _, rfl, rfl, hc4, small1000 (by omega), ?_⟩
      have hA := h8.push (x := ⟨"join", .non, [r, r2], (many : Int) + (code.length : Int)⟩) rfl nl nb nt hc4 (rfl) (by simp only [List.mem_cons, List.not_mem_nil, or_false, forall_eq_or_imp, forall_eq]; exact ⟨f1, f2⟩) (.join r r2 _)
      have h11 : GenAt st c cp sp H (upd (upd (upd (upd H8 l (.lst [V.int r, V.int r2])) b (.lst [V.int ((many : Int) + (code.length : Int))])) t (.tup [.str "join", .non, .ref l, .ref b])) cp (.lst (vs ++ [.ref t]))) many (code ++ [(⟨"join", .non, [r, r2], (many : Int) + (code.length : Int)⟩ : In)]) safe := hA
      obtain ⟨vs2, hc2, hi2⟩ := h11.cd
      have hl2 := hi2.len
      rw [List.length_append, List.length_singleton] at hl2
      generalize (upd (upd (upd (upd H8 l (.lst [V.int r, V.int r2])) b (.lst [V.int ((many : Int) + (code.length : Int))])) t (.tup [.str "join", .non, .ref l, .ref b])) cp (.lst (vs ++ [.ref t]))) = H11 at h11 hc2 hi2 ⊢
      clear hA
      refine ⟨_, rfl, .inl ⟨rfl, _, SqL.of hc2⟩, ?_⟩
      refine ⟨_, rfl, (by show 1 ≤ sizeLine; decide), fun l nl => ⟨_, rfl, _, _, rfl, rfl, (by show 1 ≤ sizeLine; decide), fun b nb => ⟨(by show 4 ≤ sizeLine; decide), fun t nt => ?_⟩⟩⟩
      have hc4 := (same_new nt (.tup [.str "fill", .int 1, .ref l, .ref b])) _ _ ((same_new nb (.lst [V.int ((many : Int) + (code.length : Int) + 1)])) _ _ ((same_new nl (.lst [V.int r])) _ _ hc2))
      refine ⟨cp, _, _, rfl, rfl, hc4, small1000 (by omega), ?_⟩
      have hA := h11.push (x := ⟨"fill", .int 1, [r], (many : Int) + (code.length : Int) + 1⟩) rfl nl nb nt hc4 (by simp; omega) (by simp only [List.mem_cons, List.not_mem_nil, or_false, forall_eq_or_imp, forall_eq]; exact f1.mono (by simp) (Nat.le_refl _)) (.fill 1 r _ (by omega))
      refine ⟨_, rfl, _, _, rfl, rfl, ?_⟩
      have e3 : (many : Int) + (code.length : Int) + 1 = many + ((code ++ [(⟨"join", .non, [r, r2], (many : Int) + (code.length : Int)⟩ : In)]).length : Int) := by simp; omega
      exact qT _ st c cp sp H _ many _ safe _ _ _ _ _ _ hA (by rw [List.length_append, List.length_singleton]; omega) (by rw [e3]; exact Sf.last (show ("fill" : Str) ≠ "join" by decide +kernel)) (by simp) (by simp; omega) (by omega) (fun code' safe' H' v9' h' l' ls' => ⟨code', safe', _, _, _, _, _, rfl, h', by simp at l'; omega, by omega⟩)
    · refine ⟨_, rfl, rfl, _, rfl, ?_⟩
      refine ifF (by decide +kernel) ?_
      refine ⟨_, rfl, rfl, _, rfl, ?_⟩
      refine ifT (by decide +kernel) ?_
      refine ⟨_, rfl, .inl ⟨rfl, _, SqL.of hc⟩, ?_⟩
      refine ⟨_, rfl, (by show 5 ≤ sizeLine; decide), fun p2 hp2 => ?_⟩
      have np2 := St.new h8.go.2 hp2
      have h9 := h8.new (o := .lst [.str "+", .str "-", .str "*", .str "<", .str "="]) hp2
      have hc9 := (same_new hp2 (.lst [.str "+", .str "-", .str "*", .str "<", .str "="])) _ _ hc
      refine ⟨st, c, p2, _, rfl, h9.go.2, upd_same, np2.1, np2.2, by decide, by decide, fun HA sg gA hsg => ?_⟩
      have h10 := h9.step gA
      have hc10 := gA.1 _ _ h9.cn.1 h9.cn.2 hc9
      obtain ⟨k, sn, rfl, hk, k5, k6⟩ : ∃ (k : Nat) (sn : Str), sg = .str sn ∧ sgn[k]? = some sn ∧ k ≠ 5 ∧ k ≠ 6 := by
        simp only [List.mem_cons, List.not_mem_nil, or_false] at hsg
        rcases hsg with rfl | rfl | rfl | rfl | rfl
        · exact ⟨0, _, rfl, rfl, by decide, by decide⟩
        · exact ⟨1, _, rfl, rfl, by decide, by decide⟩
        · exact ⟨2, _, rfl, rfl, by decide, by decide⟩
        · exact ⟨7, _, rfl, rfl, by decide, by decide⟩
        · exact ⟨8, _, rfl, rfl, by decide, by decide⟩
      refine ⟨_, rfl, _, rfl, (by show 2 ≤ sizeLine; decide), fun l nl => ⟨_, rfl, (by show 1 ≤ sizeLine; decide), fun b nb => ⟨(by show 4 ≤ sizeLine; decide), fun t nt => ?_⟩⟩⟩
      have hc4 := (same_new nt (.tup [.str "calc", .str sn, .ref l, .ref b])) _ _ ((same_new nb (.lst [V.int ((many : Int) + (code.length : Int))])) _ _ ((same_new nl (.lst [V.int r, V.int r2])) _ _ hc10))
      refine ⟨cp, _, _, rfl, rfl, hc4, small1000 (by omega), ?_⟩
      have hA := h10.push (x := ⟨"calc", .str sn, [r, r2], (many : Int) + (code.length : Int)⟩) rfl nl nb nt hc4 (rfl) (by simp only [List.mem_cons, List.not_mem_nil, or_false, forall_eq_or_imp, forall_eq]; exact ⟨f1, f2⟩) (.calc1 k sn r r2 _ hk k5 k6)
      exact qT _ st c cp sp H _ many _ safe _ _ _ _ _ _ hA (by rw [List.length_append, List.length_singleton]; omega) (Sf.last (show ("calc" : Str) ≠ "join" by decide +kernel)) (by simp) (by simp; omega) (by omega) (fun code' safe' H' v9' h' l' ls' => ⟨code', safe', _, _, _, _, _, rfl, h', by simp at l'; omega, by omega⟩)
    · refine ⟨_, rfl, rfl, _, rfl, ?_⟩
      refine ifF (by decide +kernel) ?_
      refine ⟨_, rfl, rfl, _, rfl, ?_⟩
      refine ifF (by decide +kernel) ?_
      refine ⟨_, rfl, rfl, _, rfl, ?_⟩
      refine ifT (by decide +kernel) ?_
      refine ⟨_, rfl, .inl ⟨rfl, _, SqL.of hc⟩, ?_⟩
      refine ⟨_, rfl, (by show 2 ≤ sizeLine; decide), fun p2 hp2 => ?_⟩
      have np2 := St.new h8.go.2 hp2
      have h9 := h8.new (o := .lst [.str "/", .str "mod"]) hp2
      have hc9 := (same_new hp2 (.lst [.str "/", .str "mod"])) _ _ hc
      refine ⟨st, c, p2, _, rfl, h9.go.2, upd_same, np2.1, np2.2, by decide, by decide, fun HA sg gA hsg => ?_⟩
      have h10 := h9.step gA
      have hc10 := gA.1 _ _ h9.cn.1 h9.cn.2 hc9
      obtain ⟨k, sn, rfl, hk, k5, k6⟩ : ∃ (k : Nat) (sn : Str), sg = .str sn ∧ sgn[k]? = some sn ∧ k ≠ 5 ∧ k ≠ 6 := by
        simp only [List.mem_cons, List.not_mem_nil, or_false] at hsg
        rcases hsg with rfl | rfl
        · exact ⟨3, _, rfl, rfl, by decide, by decide⟩
        · exact ⟨4, _, rfl, rfl, by decide, by decide⟩
      refine ⟨_, rfl, _, rfl, (by show 2 ≤ sizeLine; decide), fun l nl => ⟨_, rfl, (by show 1 ≤ sizeLine; decide), fun b nb => ⟨(by show 4 ≤ sizeLine; decide), fun t nt => ?_⟩⟩⟩
      have hc4 := (same_new nt (.tup [.str "calc", .str sn, .ref l, .ref b])) _ _ ((same_new nb (.lst [V.int ((many : Int) + (code.length : Int))])) _ _ ((same_new nl (.lst [V.int r, V.int r2])) _ _ hc10))
      refine ⟨cp, _, _, rfl, rfl, hc4, small1000 (by omega), ?_⟩
      have hA := h10.push (x := ⟨"calc", .str sn, [r, r2], (many : Int) + (code.length : Int)⟩) rfl nl nb nt hc4 (rfl) (by simp only [List.mem_cons, List.not_mem_nil, or_false, forall_eq_or_imp, forall_eq]; exact ⟨f1, f2⟩) (.calc1 k sn r r2 _ hk k5 k6)
      exact qT _ st c cp sp H _ many _ safe _ _ _ _ _ _ hA (by rw [List.length_append, List.length_singleton]; omega) (Sf.last (show ("calc" : Str) ≠ "join" by decide +kernel)) (by simp) (by simp; omega) (by omega) (fun code' safe' H' v9' h' l' ls' => ⟨code', safe', _, _, _, _, _, rfl, h', by simp at l'; omega, by omega⟩)
  · rintro σ H4 ⟨code, safe, v3, v6, v7, v8, v9, rfl, h4, l3, ls⟩
    refine ⟨_, rfl, _, rfl, (by show 2 ≤ sizeLine; decide), fun x nx => ?_⟩
    have h5 := h4.new (o := .lst [.ref cp, .ref sp]) nx
    have nn := St.new h4.go.2 nx
    have fr : H x = none := by
      cases z : H x with
      | none => rfl
      | some o => have := h4.go.1 _ _ nn.1 nn.2 z; rw [nx] at this; cases this
    exact q _ x cp sp code safe h5 (by omega) (by omega) nn.1 nn.2 fr upd_same
end
end K15

namespace K15
open PySem PySem.Spec PyProof.Rows L2
/-- a call of the other block, as the last instruction -/
inductive CallIn : In → Prop
  | mk (r q o : Int) : CallIn ⟨"call", .str "other", [0, r, q], o⟩
/-- a block: its code, the register that it gives -/
structure Bk where
  code : List In
  res : Int
def NumAt (X : List Addr) (H : Hp) (v : V) : Prop := ∃ a, v = .ref a ∧ H a = some (.tup [.str "num"]) ∧ a ∉ X
def PairAt (X : List Addr) (H : Hp) (v : V) : Prop := ∃ a x y, v = .ref a ∧ H a = some (.tup [.str "pair", x, y]) ∧ a ∉ X ∧ NumAt X H x ∧ NumAt X H y
def BlkAt (X : List Addr) (H : Hp) (nm : Str) (b : Bk) (v : V) : Prop := ∃ (t cp rp : Addr) (pv nv : V) (vs : List V), v = .ref t ∧ H t = some (.tup [.str "block", .str nm, pv, nv, .ref cp, .ref rp]) ∧ PairAt X H pv ∧ NumAt X H nv ∧ H cp = some (.lst vs) ∧ InsAt X H b.code vs ∧ H rp = some (.lst [.int b.res]) ∧ t ∉ X ∧ cp ∉ X ∧ rp ∉ X
theorem NumAt.fr {X : List Addr} {H H' : Hp} {v : V} (s : Fr X H H') : NumAt X H v → NumAt X H' v := fun ⟨a, e, h, n⟩ => ⟨a, e, s _ _ n h, n⟩
theorem PairAt.fr {X : List Addr} {H H' : Hp} {v : V} (s : Fr X H H') : PairAt X H v → PairAt X H' v := fun ⟨a, x, y, e, h, n, h1, h2⟩ => ⟨a, x, y, e, s _ _ n h, n, h1.fr s, h2.fr s⟩
theorem InAt.weak {X Y : List Addr} {H : Hp} {x : In} {v : V} (s : ∀ b, b ∈ Y → b ∈ X) (h : InAt X H x v) : InAt Y H x v := by
  obtain ⟨t, a, b, e, h1, h2, h3, n1, n2, n3⟩ := h
  exact ⟨t, a, b, e, h1, h2, h3, fun z => n1 (s _ z), fun z => n2 (s _ z), fun z => n3 (s _ z)⟩
theorem InsAt.weak {X Y : List Addr} {H : Hp} (s : ∀ b, b ∈ Y → b ∈ X) : ∀ {code : List In} {vs : List V}, InsAt X H code vs → InsAt Y H code vs
  | [], [], _ => trivial
  | _ :: _, _ :: _, ⟨a, b⟩ => ⟨a.weak s, b.weak s⟩
  | [], _ :: _, h => h.elim
  | _ :: _, [], h => h.elim
theorem BlkAt.fr {X : List Addr} {H H' : Hp} {nm : Str} {b : Bk} {v : V} (s : Fr X H H') (h : BlkAt X H nm b v) : BlkAt X H' nm b v := by
  obtain ⟨t, cp, rp, pv, nv, vs, e, h1, h2, h3, h4, h5, h6, n1, n2, n3⟩ := h
  exact ⟨t, cp, rp, pv, nv, vs, e, s _ _ n1 h1, h2.fr s, h3.fr s, s _ _ n2 h4, h5.fr s, s _ _ n3 h6, n1, n2, n3⟩
theorem newAt {st c p : Addr} {H : Hp} {o : HO} (S : StAt H st c) (n : H p = none) : ∃ H', H' = upd H p o ∧ Go st c H H' ∧ H' p = some o ∧ p ∉ [st, c] := by
  have m := St.new S n
  exact ⟨_, rfl, Go.same S (same_new n o), upd_same, fun z => by
    simp only [List.mem_cons, List.not_mem_nil, or_false] at z
    rcases z with z | z
    · exact m.1 z
    · exact m.2 z⟩
theorem Fr.gg {st c : Addr} {H H' : Hp} (g : Go st c H H') : Fr [st, c] H H' := Fr.go g.1 (by simp) (by simp)
/-- a block without calls -/
structure BkOk (b : Bk) : Prop where
  ok : Okc 3 b.code
  ln : b.code.length ≤ 36
  rs : Sf 3 b.code b.code.length b.res
/-- the first block may end with a call of the other -/
def MainOk (b : Bk) : Prop := BkOk b ∨ ∃ (code : List In) (r q : Int), b.code = code ++ [⟨"call", .str "other", [0, r, q], 3 + (code.length : Int)⟩] ∧ Okc 3 code ∧ code.length ≤ 36 ∧ Sf 3 code code.length r ∧ Sf 3 code code.length q ∧ (b.res = 3 + (code.length : Int) ∨ Sf 3 code code.length b.res)
theorem outs_get {many : Nat} {code : List In} (h : Okc many code) : code.map (·.out) = (List.range code.length).map fun (k : Nat) => (many : Int) + (k : Int) := by
  refine List.ext_getElem (by simp) fun k h1 h2 => ?_
  simp only [List.length_map] at h1
  have := h.out k code[k] (List.getElem?_eq_getElem h1)
  simp [this]
theorem most {code : List In} (h : Okc 3 code) {m : Int} (hm : m ∈ 0 :: (code.map (·.out)) ++ [2]) (hx : ∀ y, y ∈ 0 :: (code.map (·.out)) ++ [2] → y ≤ m) : 1 + m = 3 + (code.length : Int) := by
  rw [outs_get h] at hm hx
  have h2 := hx 2 (by simp)
  by_cases c : code.length = 0
  · rw [c] at hm ⊢
    simp at hm
    omega
  · have := hx (3 + ((code.length - 1 : Nat) : Int)) (List.mem_append_left _ (List.mem_cons_of_mem _ (List.mem_map.mpr ⟨code.length - 1, List.mem_range.mpr (by omega), rfl⟩)))
    have up : m ≤ 2 + (code.length : Int) := by
      simp only [List.cons_append, List.mem_cons, List.mem_append, List.mem_map, List.mem_range, List.not_mem_nil, or_false] at hm
      rcases hm with rfl | ⟨k, hk, rfl⟩ | rfl <;> omega
    omega
end K15

namespace K15
open PySem PySem.Spec PyProof.Rows L2
section
variable {P : Program} {w : World} {K : PySem.W.Frag} {mg : Str → Option Value} {base : Heap} {a : Ad}
def spBlocks : Sp := fun vs H Q _ => ∃ (st c : Addr), vs = [.ref st] ∧ StAt H st c ∧
  ∀ (H' : Hp) (q : Addr) (v1 v2 : V) (b1 b2 : Bk), Go st c H H' → H' q = some (.lst [v1, v2]) → q ∉ [st, c] → BlkAt [st, c] H' "main" b1 v1 → BlkAt [st, c] H' "other" b2 v2 → MainOk b1 → BkOk b2 → Q (.ref q) H'
theorem InsAt.get {X : List Addr} {H : Hp} {v : V} : ∀ {code : List In} {vs : List V} {k : Nat}, InsAt X H code vs → vs[k]? = some v → ∃ x, code[k]? = some x ∧ InAt X H x v
  | x :: _, w :: _, 0, ⟨h, _⟩, e => ⟨x, rfl, by obtain rfl : w = v := Option.some.inj e; exact h⟩
  | _ :: _, _ :: _, k + 1, ⟨_, h⟩, e => h.get (k := k) e
  | _, [], k, _, e => by simp at e
  | [], _ :: _, _, h, _ => h.elim
theorem pair2 {a b : Addr} : ∀ z, z ∈ [a, b] → ∀ {x y : Addr}, z ∈ [a, b, x, y] := fun z h {x y} => by
  simp only [List.mem_cons, List.not_mem_nil, or_false] at h ⊢
  rcases h with h | h
  · exact .inl h
  · exact .inr (.inl h)
theorem ok_law_blocks (T : Txt w K mg a) : FnOk P w K mg base CX0 5 a.law_blocks.1 a.law_blocks.2 ["state"] spBlocks := by
  refine T.law_blocks.F.ok sc_law_blocks (fun vs H Q E h => ?_) (fun cdv A outer s H vs Q E hr h => ?_)
  · obtain ⟨_, _, rfl, _⟩ := h
    rfl
  obtain ⟨st, c, rfl, hS, q⟩ := h
  have nd := sc_law_blocks.nd
  have G_law_draw := ok_law_draw (P := P) (w := w) (base := base) T
  have G_law_pick := ok_law_pick (P := P) (w := w) (base := base) T
  have G_law_code := ok_law_code (P := P) (w := w) (base := base) T
  refine ⟨_, (pss_cons (ps_asg (pe_call G_law_code (hr.mono (by omega)) rfl T.law_code.g T.law_code.F.kp T.law_code.b .nil pass0 (pa_cons (pv 0) (pa_cons pe_int pa_nil))) (pg_unl rfl (pgs_cons (pg_name (i := 1) nd rfl (Or.inl rfl)) (pgs_cons (pg_name (i := 2) nd rfl (Or.inl rfl)) pgs_nil))))
  (pss_cons (ps_set (i := 3) nd rfl (Or.inl rfl) (pe_lst (pa_cons (pe_call G_law_pick (hr.mono (by omega)) rfl T.law_pick.g T.law_pick.F.kp T.law_pick.b .nil pass0 (pa_cons (pv 0) (pa_cons (pv 2) pa_nil))) pa_nil)))
  (pss_cons (ps_set (i := 4) nd rfl (Or.inl rfl) (pe_tup (pa_cons pe_str (pa_cons (pe_tup (pa_cons pe_str pa_nil)) (pa_cons (pe_tup (pa_cons pe_str pa_nil)) pa_nil)))))
  (pss_cons (ps_set (i := 5) nd rfl (Or.inl rfl) (pe_tup (pa_cons pe_str (pa_cons pe_str (pa_cons (pv 4) (pa_cons (pe_tup (pa_cons pe_str pa_nil)) (pa_cons (pv 1) (pa_cons (pv 3) pa_nil))))))))
  (pss_cons (ps_set (i := 6) nd rfl (Or.inl rfl) (pe_call G_law_code (hr.mono (by omega)) rfl T.law_code.g T.law_code.F.kp T.law_code.b .nil pass0 (pa_cons (pv 0) (pa_cons pe_int pa_nil))))
  (pss_cons (ps_set (i := 7) nd rfl (Or.inl rfl) (pe_tup (pa_cons pe_str (pa_cons pe_str (pa_cons (pv 4) (pa_cons (pe_tup (pa_cons pe_str pa_nil)) (pa_cons (pe_ix ix_list (pv 6) pe_int (fun _ _ => rfl)) (pa_cons (pe_lst (pa_cons (pe_call G_law_pick (hr.mono (by omega)) rfl T.law_pick.g T.law_pick.F.kp T.law_pick.b .nil pass0 (pa_cons (pv 0) (pa_cons (pe_ix ix_list (pv 6) pe_int (fun _ _ => rfl)) pa_nil))) pa_nil)) pa_nil))))))))
  (pss_cons (ps_set (i := 8) nd rfl (Or.inl rfl) (pe_op op_add pe_int (pe_callB (cr_max rfl) (by rfl) T.max (by decide +kernel) (pa_cons (pe_op op_cat (pe_op op_cat (pe_lst (pa_cons pe_int pa_nil)) (pe_lc (own := [("part", 10)]) (g := gName 10) (tt := tYes) rfl nd (pi_list (pv 1)) (blkOk_by (N := ["state", "code", "safe", "results", "pair", "main", "inner", "other", "number", "call", "part"]) (sc := defScope s_law_blocks) (by decide +kernel)) (fun _ _ _ _ _ => (pg_name (i := 10) nd rfl (Or.inl rfl))) (fun _ _ _ _ _ => pts_nil) (fun _ _ _ _ _ => (pe_ix (ix_listK (K := K) rfl) (pe_ix (ix_tupK (K := K) rfl) (pv 10) pe_int (fun _ _ => rfl)) pe_int (fun _ _ => rfl))))) (pe_lst (pa_cons pe_int pa_nil))) pa_nil))))
  (pss_cons (ps_if (pt_cmpR op_eq (pe_call G_law_draw (hr.mono (by omega)) rfl T.law_draw.g T.law_draw.F.kp T.law_draw.b .nil pass0 (pa_cons (pv 0) (pa_cons pe_int pa_nil))) pe_int (nomark _)) (pss_cons (ps_set (i := 9) nd rfl (Or.inl rfl) (pe_tup (pa_cons pe_str (pa_cons pe_str (pa_cons (pe_lst (pa_cons pe_int (pa_cons (pe_call G_law_pick (hr.mono (by omega)) rfl T.law_pick.g T.law_pick.F.kp T.law_pick.b .nil pass0 (pa_cons (pv 0) (pa_cons (pv 2) pa_nil))) (pa_cons (pe_call G_law_pick (hr.mono (by omega)) rfl T.law_pick.g T.law_pick.F.kp T.law_pick.b .nil pass0 (pa_cons (pv 0) (pa_cons (pv 2) pa_nil))) pa_nil)))) (pa_cons (pe_lst (pa_cons (pv 8) pa_nil)) pa_nil))))))
  (pss_one (ps_set (i := 5) nd rfl (Or.inl rfl) (pe_tup (pa_cons pe_str (pa_cons pe_str (pa_cons (pv 4) (pa_cons (pe_tup (pa_cons pe_str pa_nil)) (pa_cons (pe_op op_cat (pv 1) (pe_lst (pa_cons (pv 9) pa_nil))) (pa_cons (pe_lst (pa_cons (pe_call G_law_pick (hr.mono (by omega)) rfl T.law_pick.g T.law_pick.F.kp T.law_pick.b .nil pass0 (pa_cons (pv 0) (pa_cons (pe_lst (pa_cons (pv 8) (pa_cons (pe_ix ix_list (pv 3) pe_int (fun _ _ => rfl)) pa_nil))) pa_nil))) pa_nil)) pa_nil)))))))))) pss_nil)
  (pss_one (ps_ret (pe_lst (pa_cons (pv 5) (pa_cons (pv 7) pa_nil))))))))))))), ?_⟩
  refine ⟨_, rfl, st, c, 3, rfl, by decide, by decide, hS, fun H1 q1 cp sp code safe h1 l36 l30 n1 n2 fq hq => ?_⟩
  refine ⟨q1, _, rfl, SqL.of hq, rfl, _, _, rfl, _, _, rfl, rfl, ?_⟩
  refine ⟨_, rfl, _, rfl, st, c, sp, iv safe, rfl, h1.go.2, h1.sa, h1.sn.1, h1.sn.2, by rw [iv_len]; exact List.length_pos_iff.mpr h1.nn, by rw [iv_len]; omega, fun H2 x2 g2 hx2 => ?_⟩
  obtain ⟨r, hr2, rfl⟩ := List.mem_map.mp hx2
  have S_H2 := g2.2
  refine ⟨(by show 1 ≤ sizeLine; decide), fun rp nrp => ?_⟩
  obtain ⟨H3, e_rp, g_rp, a_rp, n_rp⟩ := newAt S_H2 nrp (o := .lst [V.int r])
  rw [← e_rp]
  have S_H3 := g_rp.2
  refine ⟨(by show 1 ≤ sizeLine; decide), fun ta nta => ?_⟩
  obtain ⟨H4, e_ta, g_ta, a_ta, n_ta⟩ := newAt S_H3 nta (o := .tup [.str "num"])
  rw [← e_ta]
  have S_H4 := g_ta.2
  refine ⟨(by show 1 ≤ sizeLine; decide), fun tb ntb => ?_⟩
  obtain ⟨H5, e_tb, g_tb, a_tb, n_tb⟩ := newAt S_H4 ntb (o := .tup [.str "num"])
  rw [← e_tb]
  have S_H5 := g_tb.2
  refine ⟨(by show 3 ≤ sizeLine; decide), fun pp npp => ?_⟩
  obtain ⟨H6, e_pp, g_pp, a_pp, n_pp⟩ := newAt S_H5 npp (o := .tup [.str "pair", .ref ta, .ref tb])
  rw [← e_pp]
  have S_H6 := g_pp.2
  refine ⟨_, rfl, (by show 1 ≤ sizeLine; decide), fun tc ntc => ?_⟩
  obtain ⟨H7, e_tc, g_tc, a_tc, n_tc⟩ := newAt S_H6 ntc (o := .tup [.str "num"])
  rw [← e_tc]
  have S_H7 := g_tc.2
  refine ⟨_, rfl, _, rfl, (by show 6 ≤ sizeLine; decide), fun tm ntm => ?_⟩
  obtain ⟨H8, e_tm, g_tm, a_tm, n_tm⟩ := newAt S_H7 ntm (o := .tup [.str "block", .str "main", .ref pp, .ref tc, .ref cp, .ref rp])
  rw [← e_tm]
  have S_H8 := g_tm.2
  have gA : Go st c H2 H8 := ((((g_rp.trans g_ta).trans g_tb).trans g_pp).trans g_tc).trans g_tm
  have hP : PairAt [st, c] H8 (.ref pp) := ⟨pp, .ref ta, .ref tb, rfl, (Fr.gg (g_tc.trans g_tm)) _ _ n_pp a_pp, n_pp, ⟨ta, rfl, (Fr.gg (((g_tb.trans g_pp).trans g_tc).trans g_tm)) _ _ n_ta a_ta, n_ta⟩, ⟨tb, rfl, (Fr.gg ((g_pp.trans g_tc).trans g_tm)) _ _ n_tb a_tb, n_tb⟩⟩
  have hN : NumAt [st, c] H8 (.ref tc) := ⟨tc, rfl, (Fr.gg g_tm) _ _ n_tc a_tc, n_tc⟩
  have hR : H8 rp = some (.lst [.int r]) := (Fr.gg ((((g_ta.trans g_tb).trans g_pp).trans g_tc).trans g_tm)) _ _ n_rp a_rp
  have h8 := h1.step (g2.trans gA)
  clear e_rp e_ta e_tb e_pp e_tc e_tm
  refine ⟨_, rfl, st, c, 3, rfl, by decide, by decide, h8.go.2, fun H9 q2 cp2 sp2 code2 safe2 h9 m36 m30 k1 k2 fq2 hq2 => ?_⟩
  have g9 := h9.go
  have nq2 : q2 ∉ [st, c] := fun z => by
    simp only [List.mem_cons, List.not_mem_nil, or_false] at z
    rcases z with z | z
    · exact k1 z
    · exact k2 z
  refine ⟨_, rfl, (by show 1 ≤ sizeLine; decide), fun td ntd => ?_⟩
  have S_H9 := h9.go.2
  obtain ⟨HA, e_td, g_td, a_td, n_td⟩ := newAt S_H9 ntd (o := .tup [.str "num"])
  rw [← e_td]
  have S_HA := g_td.2
  have hq3 := (Fr.gg g_td) _ _ nq2 hq2
  refine ⟨_, rfl, q2, _, _, _, rfl, rfl, SqL.of hq3, rfl, _, rfl, _, rfl, q2, _, _, _, rfl, rfl, SqL.of hq3, rfl, ?_⟩
  have hA := h9.step g_td
  refine ⟨st, c, sp2, iv safe2, rfl, hA.go.2, hA.sa, hA.sn.1, hA.sn.2, by rw [iv_len]; exact List.length_pos_iff.mpr hA.nn, by rw [iv_len]; omega, fun HB xB gB hxB => ?_⟩
  obtain ⟨r2, hrB, rfl⟩ := List.mem_map.mp hxB
  have S_HB := gB.2
  refine ⟨(by show 1 ≤ sizeLine; decide), fun rq nrq => ?_⟩
  obtain ⟨HC, e_rq, g_rq, a_rq, n_rq⟩ := newAt S_HB nrq (o := .lst [V.int r2])
  rw [← e_rq]
  have S_HC := g_rq.2
  refine ⟨(by show 6 ≤ sizeLine; decide), fun to nto => ?_⟩
  obtain ⟨HD, e_to, g_to, a_to, n_to⟩ := newAt S_HC nto (o := .tup [.str "block", .str "other", .ref pp, .ref td, .ref cp2, .ref rq])
  rw [← e_to]
  have S_HD := g_to.2
  have gD : Go st c HA HD := (gB.trans g_rq).trans g_to
  have hD := hA.step gD
  have g89 := g9.trans (g_td.trans gD)
  obtain ⟨ws, hc2, hi2⟩ := hD.cd
  have ncp : ∀ {cp : Addr}, cp ≠ st ∧ cp ≠ c → cp ∉ [st, c] := fun {cp} n z => by
    simp only [List.mem_cons, List.not_mem_nil, or_false] at z
    rcases z with z | z
    · exact n.1 z
    · exact n.2 z
  have hOther : BlkAt [st, c] HD "other" ⟨code2, r2⟩ (.ref to) := ⟨to, cp2, rq, .ref pp, .ref td, ws, rfl, a_to, hP.fr (Fr.gg g89), ⟨td, rfl, (Fr.gg gD) _ _ n_td a_td, n_td⟩, hc2, hi2.weak (fun z h => pair2 z h), (Fr.gg g_to) _ _ n_rq a_rq, n_to, ncp hD.cn, n_rq⟩
  have okO : BkOk ⟨code2, r2⟩ := ⟨hD.ok, m36, hD.sf r2 hrB⟩
  have hE := h8.step g89
  obtain ⟨us, hc1, hi1⟩ := hE.cd
  have hMain : BlkAt [st, c] HD "main" ⟨code, r⟩ (.ref tm) := ⟨tm, cp, rp, .ref pp, .ref tc, us, rfl, (Fr.gg g89) _ _ n_tm a_tm, hP.fr (Fr.gg g89), hN.fr (Fr.gg g89), hc1, hi1.weak (fun z h => pair2 z h), (Fr.gg g89) _ _ n_rp hR, n_tm, ncp hE.cn, n_rp⟩
  have okM : BkOk ⟨code, r⟩ := ⟨hE.ok, l36, hE.sf r hr2⟩
  have S_HD := hD.go.2
  refine ⟨(by show 1 ≤ sizeLine; decide), fun z nz => ?_⟩
  obtain ⟨HE, e_z, g_z, a_z, n_z⟩ := newAt S_HD nz (o := .lst [V.int 0])
  rw [← e_z]
  have S_HE := g_z.2
  have hc1E := (Fr.gg g_z) _ _ (ncp hE.cn) hc1
  have hi1E : InsAt [st, c] HE code us := (hi1.weak (fun z h => pair2 z h)).fr (Fr.gg g_z)
  refine ⟨_, rfl, cp, rfl, ⟨_, SqL.of hc1E⟩, fun D nD => lc_it (walk_list (K := K) (a := cp) (xs := us)) (fun i H1 => Same HE H1 ∧ H1 D = some (.lst (iv ((code.map (·.out)).take i)))) ⟨same_new nD _, upd_same⟩ (fun i H1 _ h => SqL.of (h.1 _ _ hc1E)) ?_ ?_⟩
  · rintro i x Hx Hy hi ⟨sm, hD1⟩ ⟨rfl, hx⟩
    obtain ⟨y, ey, t, aa, bb, rfl, ht, _, hbb, _⟩ := hi1E.get hx
    have il := (List.getElem?_eq_some_iff.mp ey).1
    refine ⟨rfl, _, rfl, t, _, _, _, rfl, rfl, .inl (.inl (sm _ _ ht)), atI_nat (j := 3) rfl, bb, _, _, _, rfl, rfl, SqL.of (sm _ _ hbb), atI_nat (j := 0) rfl, tick sm nD hD1 (fun _ _ e => e) ?_ ?_⟩
    · rw [List.take_add_one, List.getElem?_map, ey]; simp [iv]
    · rw [iv_len, List.length_take]; unfold NN; omega
  rintro HF ⟨smF, hDF⟩
  have ul := hi1E.len
  rw [List.take_of_length_le (by rw [List.length_map]; omega)] at hDF
  have gF := Go.same S_HE smF
  have S_HF := gF.2
  refine ⟨z, D, _, _, rfl, rfl, smF _ _ a_z, hDF, by rw [iv_len, List.length_map]; show 1 + _ ≤ sizeLine; exact Nat.le_trans (show _ ≤ 1000 by omega) (by decide), fun d nd' => ?_⟩
  have nd_ := nd'
  obtain ⟨HG, e_d_, g_d_, a_d_, n_d_⟩ := newAt (p := d) S_HF nd' (o := .lst ([V.int 0] ++ iv (code.map (·.out))))
  rw [← e_d_]
  have S_HG := g_d_.2
  refine ⟨(by show 1 ≤ sizeLine; decide), fun w2 nw2 => ?_⟩
  obtain ⟨HH, e_w2, g_w2, a_w2, n_w2⟩ := newAt S_HG nw2 (o := .lst [V.int 2])
  rw [← e_w2]
  have S_HH := g_w2.2
  refine ⟨d, w2, _, _, rfl, rfl, (Fr.gg g_w2) _ _ n_d_ a_d_, a_w2, by rw [List.length_append, iv_len, List.length_map]; show 1 + _ + 1 ≤ sizeLine; exact Nat.le_trans (show _ ≤ 1000 by omega) (by decide), fun e5 ne5 => ?_⟩
  obtain ⟨HI, e_e5, g_e5, a_e5, n_e5⟩ := newAt S_HH ne5 (o := .lst ([V.int 0] ++ iv (code.map (·.out)) ++ [V.int 2]))
  rw [← e_e5]
  have S_HI := g_e5.2
  refine ⟨e5, 0 :: (code.map (·.out)) ++ [2], rfl, SqL.of (by rw [a_e5]; simp [iv]), by simp, fun m hm hmx => ?_⟩
  have em := most hE.ok hm hmx
  refine ⟨_, _, rfl, rfl, ?_⟩
  have gI : Go st c HD HI := (((g_z.trans gF).trans g_d_).trans g_w2).trans g_e5
  refine ⟨_, rfl, st, c, 2, rfl, S_HI, by decide, by decide, fun HJ n gJ _ _ => ?_⟩
  have gDJ := gI.trans gJ
  have S_HJ := gJ.2
  have hOJ := hOther.fr (Fr.gg gDJ)
  have g1J := (g2.trans gA).trans (g89.trans gDJ)
  refine ⟨rfl, _, rfl, ?_⟩
  refine ite2 (fun _ => ?_) (fun _ => ?_)
  · have hJ := hE.step gDJ
    refine ⟨_, rfl, _, rfl, st, c, sp, iv safe, rfl, S_HJ, hJ.sa, hJ.sn.1, hJ.sn.2, by rw [iv_len]; exact List.length_pos_iff.mpr hJ.nn, by rw [iv_len]; omega, fun HK xK gK hxK => ?_⟩
    obtain ⟨ra, hra, rfl⟩ := List.mem_map.mp hxK
    have hK := hJ.step gK
    refine ⟨_, rfl, _, rfl, st, c, sp, iv safe, rfl, gK.2, hK.sa, hK.sn.1, hK.sn.2, by rw [iv_len]; exact List.length_pos_iff.mpr hJ.nn, by rw [iv_len]; omega, fun HL xL gL hxL => ?_⟩
    obtain ⟨rb, hrb, rfl⟩ := List.mem_map.mp hxL
    have S_HL := gL.2
    refine ⟨(by show 3 ≤ sizeLine; decide), fun ca nca => ?_⟩
    obtain ⟨HM, e_ca, g_ca, a_ca, n_ca⟩ := newAt S_HL nca (o := .lst [V.int 0, V.int ra, V.int rb])
    rw [← e_ca]
    have S_HM := g_ca.2
    refine ⟨_, rfl, (by show 1 ≤ sizeLine; decide), fun cb ncb => ?_⟩
    obtain ⟨HN, e_cb, g_cb, a_cb, n_cb⟩ := newAt S_HM ncb (o := .lst [V.int (1 + m)])
    rw [← e_cb]
    have S_HN := g_cb.2
    refine ⟨(by show 4 ≤ sizeLine; decide), fun ct nct => ?_⟩
    obtain ⟨HO, e_ct, g_ct, a_ct, n_ct⟩ := newAt S_HN nct (o := .tup [.str "call", .str "other", .ref ca, .ref cb])
    rw [← e_ct]
    have S_HO := g_ct.2
    refine ⟨_, rfl, (by show 1 ≤ sizeLine; decide), fun tn ntn => ?_⟩
    obtain ⟨HP, e_tn, g_tn, a_tn, n_tn⟩ := newAt S_HO ntn (o := .tup [.str "num"])
    rw [← e_tn]
    have S_HP := g_tn.2
    refine ⟨_, rfl, _, rfl, (by show 1 ≤ sizeLine; decide), fun w3 nw3 => ?_⟩
    obtain ⟨HQ, e_w3, g_w3, a_w3, n_w3⟩ := newAt S_HP nw3 (o := .lst [.ref ct])
    rw [← e_w3]
    have S_HQ := g_w3.2
    have gJQ : Go st c HJ HQ := ((((((gK.trans gL).trans g_ca).trans g_cb).trans g_ct).trans g_tn).trans g_w3)
    have hcQ := (Fr.gg (gDJ.trans gJQ)) _ _ (ncp hE.cn) hc1
    refine ⟨cp, w3, _, _, rfl, rfl, hcQ, a_w3, by rw [ul]; show _ + 1 ≤ sizeLine; exact Nat.le_trans (show _ ≤ 1000 by omega) (by decide), fun cc ncc => ?_⟩
    obtain ⟨HR, e_cc, g_cc, a_cc, n_cc⟩ := newAt S_HQ ncc (o := .lst (us ++ [.ref ct]))
    rw [← e_cc]
    have S_HR := g_cc.2
    have hRr := (Fr.gg (g89.trans (gDJ.trans (gJQ.trans g_cc)))) _ _ n_rp hR
    refine ⟨_, rfl, _, rfl, _, rfl, rp, _, _, _, rfl, rfl, SqL.of hRr, rfl, (by show 2 ≤ sizeLine; decide), fun pl npl => ?_⟩
    obtain ⟨HS, e_pl, g_pl, a_pl, n_pl⟩ := newAt S_HR npl (o := .lst [V.int (1 + m), V.int r])
    rw [← e_pl]
    have S_HS := g_pl.2
    have npl2 := St.new S_HR npl
    refine ⟨st, c, pl, _, rfl, S_HS, a_pl, npl2.1, npl2.2, by show 0 < 2; decide, by show 2 ≤ 1000; decide, fun HT x gT hx => ?_⟩
    have S_HT := gT.2
    obtain ⟨res, rfl, hres⟩ : ∃ res : Int, x = .int res ∧ (res = 1 + m ∨ res = r) := by
      simp only [List.mem_cons, List.not_mem_nil, or_false] at hx
      rcases hx with rfl | rfl
      · exact ⟨_, rfl, .inl rfl⟩
      · exact ⟨_, rfl, .inr rfl⟩
    refine ⟨(by show 1 ≤ sizeLine; decide), fun rr nrr => ?_⟩
    obtain ⟨HU, e_rr, g_rr, a_rr, n_rr⟩ := newAt S_HT nrr (o := .lst [V.int res])
    rw [← e_rr]
    have S_HU := g_rr.2
    refine ⟨(by show 6 ≤ sizeLine; decide), fun tm2 ntm2 => ?_⟩
    obtain ⟨HV, e_tm2, g_tm2, a_tm2, n_tm2⟩ := newAt S_HU ntm2 (o := .tup [.str "block", .str "main", .ref pp, .ref tn, .ref cc, .ref rr])
    rw [← e_tm2]
    have S_HV := g_tm2.2
    refine ⟨_, rfl, _, rfl, (by show 2 ≤ sizeLine; decide), fun qq nqq => ?_⟩
    obtain ⟨HW, e_qq, g_qq, a_qq, n_qq⟩ := newAt S_HV nqq (o := .lst [.ref tm2, .ref to])
    rw [← e_qq]
    have S_HW := g_qq.2
    have gJW : Go st c HJ HW := ((((((((((((gK.trans gL).trans g_ca).trans g_cb).trans g_ct).trans g_tn).trans g_w3).trans g_cc).trans g_pl).trans gT).trans g_rr).trans g_tm2).trans g_qq)
    have fDW := Fr.gg (gDJ.trans gJW)
    have call : InAt [st, c] HW ⟨"call", .str "other", [0, ra, rb], 1 + m⟩ (.ref ct) := ⟨ct, ca, cb, rfl, (Fr.gg (((((((g_tn.trans g_w3).trans g_cc).trans g_pl).trans gT).trans g_rr).trans g_tm2).trans g_qq)) _ _ n_ct a_ct, (Fr.gg (((((((((g_cb.trans g_ct).trans g_tn).trans g_w3).trans g_cc).trans g_pl).trans gT).trans g_rr).trans g_tm2).trans g_qq)) _ _ n_ca a_ca, (Fr.gg ((((((((g_ct.trans g_tn).trans g_w3).trans g_cc).trans g_pl).trans gT).trans g_rr).trans g_tm2).trans g_qq)) _ _ n_cb a_cb, n_ct, n_ca, n_cb⟩
    refine q HW qq _ _ ⟨code ++ [⟨"call", .str "other", [0, ra, rb], 1 + m⟩], res⟩ ⟨code2, r2⟩ ((h1.go.trans g1J).trans gJW) a_qq n_qq ⟨tm2, cc, rr, .ref pp, .ref tn, _, rfl, (Fr.gg g_qq) _ _ n_tm2 a_tm2, (hP.fr (Fr.gg g89)).fr fDW, ⟨tn, rfl, (Fr.gg ((((((g_w3.trans g_cc).trans g_pl).trans gT).trans g_rr).trans g_tm2).trans g_qq)) _ _ n_tn a_tn, n_tn⟩, (Fr.gg ((((g_pl.trans gT).trans g_rr).trans g_tm2).trans g_qq)) _ _ n_cc a_cc, ((hi1.weak (fun z h => pair2 z h)).fr fDW).snoc call, (Fr.gg (g_tm2.trans g_qq)) _ _ n_rr a_rr, n_tm2, n_cc, n_rr⟩ (hOther.fr fDW) (.inr ⟨code, ra, rb, by rw [em], hE.ok, l36, hE.sf ra hra, hE.sf rb hrb, ?_⟩) okO
    rcases hres with rfl | rfl
    · exact .inl em
    · exact .inr (hE.sf _ hr2)
  · refine ⟨_, rfl, _, rfl, (by show 2 ≤ sizeLine; decide), fun qq nqq => ?_⟩
    obtain ⟨HK, e_qq, g_qq, a_qq, n_qq⟩ := newAt S_HJ nqq (o := .lst [.ref tm, .ref to])
    rw [← e_qq]
    have S_HK := g_qq.2
    exact q HK qq _ _ ⟨code, r⟩ ⟨code2, r2⟩ ((h1.go.trans g1J).trans g_qq) a_qq n_qq ((hMain.fr (Fr.gg gDJ)).fr (Fr.gg g_qq)) (hOJ.fr (Fr.gg g_qq)) (.inl okM) okO
end
end K15

namespace K15
open PySem PySem.Spec PyProof.Rows L2
theorem Sf.lt {many : Nat} {code : List In} {k : Nat} {r : Int} (h : Sf many code k r) : 0 ≤ r ∧ r < many + (k : Int) := by
  obtain ⟨h0, h | ⟨j, h1, h2, _⟩⟩ := h <;> omega
theorem few_ins {x : In} (h : InKind x) : x.ins.length ≤ 3 := by cases h <;> simp
/-! ### blocks as data -/
theorem Shw.mono {d : PyData} {n m n' m' : Nat} (h : Shw d n m) (hn : n ≤ n') (hm : m ≤ m') : Shw d n' m' := ⟨h.ok, h.nd, Nat.le_trans h.dp hn, Nat.le_trans h.ln hm⟩
theorem Shws.tup {ds : List PyData} {n m : Nat} (h : Shws ds n m) : Shw (.tuple ds) (n + 1) (m + 2 * ds.length + 3) :=
  ⟨h.ok, h.nd, by show PyData.depthAll ds + 1 ≤ n + 1; have := h.dp; omega, by
    have a := tupleText_len_le (PyData.shownAll ds)
    have b := PyData.shownAll_length ds
    have c := h.ln
    show (tupleText (PyData.shownAll ds)).length ≤ _
    omega⟩
theorem shw_str {x : Str} {l : List Str} (h : x ∈ l) {n : Nat} (hl : (l.all fun y => decide ((PySem.reprText y).length ≤ n)) = true) : Shw (.str x) 0 n := ⟨rfl, rfl, Nat.le_refl _, of_decide_eq_true (List.all_eq_true.mp hl x h)⟩
theorem shws_map {α : Type} {f : α → PyData} {n m : Nat} : ∀ {l : List α}, (∀ x ∈ l, Shw (f x) n m) → Shws (l.map f) n (m * l.length)
  | [], _ => Shws.nil
  | x :: r, h => by
    have := Shws.cons (h x (List.mem_cons_self ..)) (shws_map fun y m => h y (List.mem_cons_of_mem _ m))
    rw [List.length_cons, Nat.mul_add, Nat.mul_one, Nat.add_comm]
    exact this
def exd : V → PyData
  | .int n => .int n
  | .str s => .str s
  | _ => .none
def In.d (x : In) : PyData := .tuple [.str x.nm, exd x.ex, nsd x.ins, nsd [x.out]]
def words : List Str := ["fill", "calc", "flags", "range", "same", "join", "call", "other", "main", "block", "pair", "num", "+", "-", "*", "/", "mod", "min", "max", "<", "="]
/-- what an instruction may hold -/
structure InOk (x : In) : Prop where
  nm : x.nm ∈ words
  ex : x.ex = .non ∨ (∃ n, x.ex = .int n ∧ InR n) ∨ ∃ s, x.ex = .str s ∧ s ∈ words
  il : x.ins.length ≤ 3
  ii : ∀ r ∈ x.ins, InR r
  oo : InR x.out
theorem exd_shw {v : V} (h : v = .non ∨ (∃ n, v = .int n ∧ InR n) ∨ ∃ s, v = .str s ∧ s ∈ words) : Shw (exd v) 0 11 := by
  rcases h with rfl | ⟨n, rfl, h⟩ | ⟨s, rfl, h⟩
  · exact ⟨rfl, rfl, Nat.le_refl _, by decide +kernel⟩
  · exact shw_int h
  · exact shw_str h (by decide +kernel)
theorem nsd_shw3 {l : List Int} (h : l.length ≤ 3) (hi : ∀ r ∈ l, InR r) : Shw (nsd l) 1 42 := by
  have a := (ints_shw hi).lst
  rw [List.length_map] at a
  exact a.mono (Nat.le_refl _) (by omega)
theorem In.shw {x : In} (h : InOk x) : Shw x.d 2 150 := by
  refine Shw.mono (Shws.tup (n := 1) ((Shws.cons ((shw_str (n := 11) h.nm (by decide +kernel)).mono (Nat.zero_le _) (Nat.le_refl _)) (Shws.cons ((exd_shw h.ex).mono (Nat.zero_le _) (Nat.le_refl _)) (Shws.cons (nsd_shw3 h.il h.ii) (Shws.cons (nsd_shw3 (l := [x.out]) (by simp) (by simpa using h.oo)) (Shws.nil (m := 0)))))))) (Nat.le_refl _) ?_
  simp only [List.length_cons, List.length_nil]
  omega
theorem dps_of {K : PySem.W.Frag} {H : Hp} {v : V} (h : v = .non ∨ (∃ n, v = .int n ∧ InR n) ∨ ∃ s, v = .str s ∧ s ∈ words) : Dp K H v (exd v) := by
  rcases h with rfl | ⟨n, rfl, _⟩ | ⟨s, rfl, _⟩
  · exact .non
  · exact .int n
  · exact .str s
theorem InAt.dp {K : PySem.W.Frag} {X : List Addr} {H : Hp} {x : In} {v : V} (h : InAt X H x v) (ok : InOk x) : Dp K H v x.d := by
  obtain ⟨t, a, b, rfl, ht, ha, hb, _⟩ := h
  exact .tup (.inl (.inl ht)) (.cons (.str _) (.cons (dps_of ok.ex) (.cons (nsd_dp (SqL.of ha)) (.cons (nsd_dp (ns := [x.out]) (SqL.of hb)) .nil))))
theorem InsAt.dp {K : PySem.W.Frag} {X : List Addr} {H : Hp} : ∀ {code : List In} {vs : List V}, InsAt X H code vs → (∀ x ∈ code, InOk x) → DpAll K H vs (code.map In.d)
  | [], [], _, _ => .nil
  | x :: _, _ :: _, ⟨a, b⟩, ok => .cons (a.dp (ok x (List.mem_cons_self ..))) (b.dp fun y m => ok y (List.mem_cons_of_mem _ m))
  | [], _ :: _, h, _ => h.elim
  | _ :: _, [], h, _ => h.elim
def numD : PyData := .tuple [.str "num"]
def pairD : PyData := .tuple [.str "pair", numD, numD]
def Bk.d (nm : Str) (b : Bk) : PyData := .tuple [.str "block", .str nm, pairD, numD, .list (b.code.map In.d), nsd [b.res]]
structure BlOk (b : Bk) : Prop where
  ins : ∀ x ∈ b.code, InOk x
  ln : b.code.length ≤ 37
  rs : InR b.res
theorem NumAt.dp {K : PySem.W.Frag} {X : List Addr} {H : Hp} {v : V} : NumAt X H v → Dp K H v numD := fun ⟨a, e, h, _⟩ => by rw [e]; exact .tup (.inl (.inl h)) (.cons (.str _) .nil)
theorem PairAt.dp {K : PySem.W.Frag} {X : List Addr} {H : Hp} {v : V} : PairAt X H v → Dp K H v pairD := fun ⟨a, x, y, e, h, _, h1, h2⟩ => by rw [e]; exact .tup (.inl (.inl h)) (.cons (.str _) (.cons h1.dp (.cons h2.dp .nil)))
theorem BlkAt.dp {K : PySem.W.Frag} {X : List Addr} {H : Hp} {nm : Str} {b : Bk} {v : V} (h : BlkAt X H nm b v) (ok : BlOk b) : Dp K H v (b.d nm) := by
  obtain ⟨t, cp, rp, pv, nv, vs, rfl, h1, h2, h3, h4, h5, h6, _⟩ := h
  exact .tup (.inl (.inl h1)) (.cons (.str _) (.cons (.str _) (.cons h2.dp (.cons h3.dp (.cons (.lst (SqL.of h4) (h5.dp ok.ins)) (.cons (nsd_dp (ns := [b.res]) (SqL.of h6)) .nil))))))
theorem Bk.shw {nm : Str} {b : Bk} (hn : nm ∈ words) (ok : BlOk b) : Shw (b.d nm) 4 7000 := by
  have c := (shws_map (f := In.d) (n := 2) (m := 150) fun x hx => In.shw (ok.ins x hx)).lst
  rw [List.length_map] at c
  have c' := c.mono (n' := 3) (m' := 6000) (by omega) (by have := ok.ln; omega)
  have p : Shw pairD 3 40 := ⟨by decide +kernel, by decide +kernel, by decide +kernel, by decide +kernel⟩
  have q : Shw numD 3 40 := ⟨by decide +kernel, by decide +kernel, by decide +kernel, by decide +kernel⟩
  refine Shw.mono (Shws.tup (n := 3) (Shws.cons ((shw_str (n := 11) (x := "block") (l := words) (by decide +kernel) (by decide +kernel)).mono (Nat.zero_le _) (Nat.le_refl _)) (Shws.cons ((shw_str (n := 11) hn (by decide +kernel)).mono (Nat.zero_le _) (Nat.le_refl _)) (Shws.cons p (Shws.cons q (Shws.cons c' (Shws.cons ((nsd_shw3 (l := [b.res]) (by simp) (by simpa using ok.rs)).mono (by omega) (Nat.le_refl _)) (Shws.nil (m := 0))))))))) (Nat.le_refl _) ?_
  simp only [List.length_cons, List.length_nil]
  omega
theorem sgn_word {k : Nat} {s : Str} (h : sgn[k]? = some s) : s ∈ words := by
  have m := List.mem_of_getElem? h
  simp only [sgn, List.mem_cons, List.not_mem_nil, or_false] at m
  rcases m with rfl | rfl | rfl | rfl | rfl | rfl | rfl | rfl | rfl <;> decide +kernel
theorem in_ok {code : List In} {k : Nat} {x : In} (ok : Okc 3 code) (lc : code.length ≤ 36) (ex : code[k]? = some x) : InOk x := by
  have lt := (List.getElem?_eq_some_iff.mp ex).1
  have ii : ∀ r ∈ x.ins, InR r := fun r hr => by have := (ok.ins k x ex r hr).lt; unfold InR; omega
  have oo : InR x.out := by rw [ok.out k x ex]; unfold InR; omega
  have ik := ok.kind x (List.mem_of_getElem? ex)
  refine ⟨?_, ?_, few_ins ik, ii, oo⟩
  · cases ik with
    | fill n r o h => show ("fill" : Str) ∈ words; decide +kernel
    | calc1 k s r q o h h5 h6 => show ("calc" : Str) ∈ words; decide +kernel
    | flags r o => show ("flags" : Str) ∈ words; decide +kernel
    | range r o => show ("range" : Str) ∈ words; decide +kernel
    | same r q o => show ("same" : Str) ∈ words; decide +kernel
    | join r q o => show ("join" : Str) ∈ words; decide +kernel
  · cases ik with
    | fill n r o h => exact .inr (.inl ⟨n, rfl, by unfold InR; omega⟩)
    | calc1 k s r q o h h5 h6 => exact .inr (.inr ⟨s, rfl, sgn_word h⟩)
    | flags r o => exact .inl rfl
    | range r o => exact .inl rfl
    | same r q o => exact .inl rfl
    | join r q o => exact .inl rfl
theorem bk_ok {b : Bk} (ok : BkOk b) : BlOk b := by
  refine ⟨fun x hx => ?_, by have := ok.ln; omega, by have := ok.rs.lt; have := ok.ln; unfold InR; omega⟩
  obtain ⟨k, e⟩ := List.getElem?_of_mem hx
  exact in_ok ok.ok ok.ln e
theorem main_ok {b : Bk} (ok : MainOk b) : BlOk b := by
  rcases ok with ok | ⟨code, r, q, ec, okc, lc, sr, sq, hres⟩
  · exact bk_ok ok
  · have lr := sr.lt
    have lq := sq.lt
    refine ⟨fun x hx => ?_, by rw [ec, List.length_append, List.length_singleton]; omega, ?_⟩
    · rw [ec] at hx
      rcases List.mem_append.mp hx with hx | hx
      · obtain ⟨k, e⟩ := List.getElem?_of_mem hx
        exact in_ok okc lc e
      · rw [List.mem_singleton.mp hx]
        refine ⟨by show ("call" : Str) ∈ words; decide +kernel, .inr (.inr ⟨"other", rfl, by decide +kernel⟩), by simp, fun z hz => ?_, by show InR (3 + (code.length : Int)); unfold InR; omega⟩
        simp only [List.mem_cons, List.not_mem_nil, or_false] at hz
        rcases hz with rfl | rfl | rfl <;> unfold InR <;> omega
    · rcases hres with e | e
      · rw [e]; unfold InR; omega
      · have := e.lt; unfold InR; omega
end K15

namespace K15
open PySem PySem.Spec PyProof.Rows L2
/-! ### dicts over the registers -/
def dl (m : Nat) (f : Nat → V) : List (L2.Key × V) := (List.range m).map fun (r : Nat) => (.inl (r : Int), f r)
theorem dl_len (m : Nat) (f : Nat → V) : (dl m f).length = m := by simp [dl]
theorem dl_succ (m : Nat) (f : Nat → V) : dl (m + 1) f = dl m f ++ [(.inl (m : Int), f m)] := by simp [dl, List.range_succ]
theorem dl_congr {m : Nat} {f h : Nat → V} (e : ∀ r, r < m → f r = h r) : dl m f = dl m h := List.map_congr_left fun r hr => by rw [e r (List.mem_range.mp hr)]
theorem valV_app (a b : List (L2.Key × V)) (k : L2.Key) : valV (a ++ b) k = (valV a k).or (valV b k) := by
  unfold valV
  rw [List.find?_append]
  cases List.find? (fun kv => decide (kv.1 = k)) a <;> rfl
theorem dl_get {m : Nat} {f : Nat → V} {r : Nat} (h : r < m) : valV (dl m f) (.inl (r : Int)) = some (f r) := by
  induction m with
  | zero => omega
  | succ m ih =>
    rw [dl_succ, valV_app]
    by_cases c : r < m
    · rw [ih c]; rfl
    · obtain rfl : r = m := by omega
      have e1 : valV [((.inl (r : Int) : L2.Key), f r)] (.inl (r : Int)) = some (f r) := valV_pos rfl
      have e2 : valV (dl r f) (.inl (r : Int)) = none ∨ valV (dl r f) (.inl (r : Int)) = some (f r) := by
        clear ih h e1 c
        have : ∀ n, n ≤ r → valV (dl n f) (.inl (r : Int)) = none := fun n => by
          induction n with
          | zero => intro _; rfl
          | succ n ih =>
            intro hn
            rw [dl_succ, valV_app, ih (by omega), Option.none_or, valV_neg (fun z => by have := Sum.inl.inj z; omega)]
            rfl
        exact .inl (this r (Nat.le_refl _))
      rw [e1]
      rcases e2 with e2 | e2 <;> rw [e2] <;> rfl
theorem dl_none {m : Nat} {f : Nat → V} {k : Int} (h : ∀ r : Nat, r < m → (r : Int) ≠ k) : valV (dl m f) (.inl k) = none := by
  induction m with
  | zero => rfl
  | succ m ih => rw [dl_succ, valV_app, ih (fun r hr => h r (by omega)), Option.none_or, valV_neg (fun z => h m (by omega) (Sum.inl.inj z))] <;> rfl
theorem dl_new (m : Nat) (f : Nat → V) (v : V) : putK (dl m f) (.inl (m : Int)) v = dl (m + 1) (fun r => if r = m then v else f r) := by
  rw [putK_new v (dl_none fun r hr => by omega), dl_succ]
  rw [if_pos rfl]
  exact congrArg (· ++ _) (dl_congr fun r hr => (if_neg (by omega)).symm)
theorem dl_put {m r : Nat} (f : Nat → V) (v : V) (h : r < m) : putK (dl m f) (.inl (r : Int)) v = dl m (fun q => if q = r then v else f q) := by
  unfold putK
  rw [if_pos]
  · unfold dl
    rw [List.map_map]
    refine List.map_congr_left fun (q : Nat) hq => ?_
    show (if (Sum.inl (q : Int) : L2.Key) = .inl (r : Int) then ((.inl (q : Int) : L2.Key), v) else (.inl (q : Int), f q)) = (.inl (q : Int), if q = r then v else f q)
    by_cases c : q = r
    · rw [if_pos c, if_pos (by rw [c])]
    · rw [if_neg c, if_neg (fun z => c (by have := Sum.inl.inj z; omega))]
  · exact List.any_eq_true.mpr ⟨(.inl (r : Int), f r), List.mem_map.mpr ⟨r, List.mem_range.mpr h, rfl⟩, decide_eq_true rfl⟩
theorem dl_at {m r : Nat} {f : Nat → V} (h : r < m) : (dl m f)[r]? = some (.inl (r : Int), f r) := by
  unfold dl
  rw [List.getElem?_map, List.getElem?_range h] <;> rfl
theorem dl_key {m i : Nat} {f : Nat → V} {k : V} (h : i < m) (e : ((dl m f)[i]?.map fun kv => kV kv.1) = some k) : k = .int (i : Int) := by
  rw [dl_at h] at e
  exact (Option.some.inj e).symm
theorem dl_val {m i : Nat} {f : Nat → V} {v : V} (h : i < m) (e : ((dl m f)[i]?.map Prod.snd) = some v) : v = f i := by
  rw [dl_at h] at e
  exact (Option.some.inj e).symm
/-! ### from where to where a register is live -/
structure WfB (b : Bk) : Prop where
  out : ∀ (k : Nat) (x : In), b.code[k]? = some x → x.out = 3 + (k : Int)
  ins : ∀ (k : Nat) (x : In), b.code[k]? = some x → ∀ r ∈ x.ins, 0 ≤ r ∧ r < 3 + (k : Int)
  few : ∀ x ∈ b.code, x.ins.length ≤ 3
  len : b.code.length ≤ 37
  res : 0 ≤ b.res ∧ b.res < 3 + (b.code.length : Int)
theorem bk_wf {b : Bk} (h : BkOk b) : WfB b := ⟨h.ok.out, fun k x e r hr => (h.ok.ins k x e r hr).lt, fun x hx => few_ins (h.ok.kind x hx), Nat.le_trans h.ln (by decide), h.rs.lt⟩
theorem main_wf {b : Bk} (h : MainOk b) : WfB b := by
  rcases h with h | ⟨code, r, q, e, ok, ln, hr, hq, hres⟩
  · exact bk_wf h
  · have lb : b.code.length = code.length + 1 := by rw [e, List.length_append]; rfl
    refine ⟨fun k x ex => ?_, fun k x ex z hz => ?_, fun x hx => ?_, by omega, ?_⟩
    · rw [e] at ex
      rcases get_snoc ex with ex | ⟨rfl, rfl⟩
      · exact ok.out k x ex
      · rfl
    · rw [e] at ex
      rcases get_snoc ex with ex | ⟨rfl, rfl⟩
      · exact (ok.ins k x ex z hz).lt
      · simp only [List.mem_cons, List.not_mem_nil, or_false] at hz
        rcases hz with rfl | rfl | rfl
        · omega
        · exact hr.lt
        · exact hq.lt
    · rw [e] at hx
      rcases List.mem_append.mp hx with hx | hx
      · exact few_ins (ok.kind x hx)
      · rw [List.mem_singleton.mp hx]; simp
    · rw [lb]
      rcases hres with h | h
      · rw [h]; omega
      · have := h.lt; omega
def fi (r : Nat) : Int := if r < 3 then -1 else (r : Int) - 3
theorem fi_le {r j : Nat} : fi r ≤ (j : Int) - 1 ↔ r < 3 + j := by unfold fi; split <;> omega
theorem fi_ge (r : Nat) : -1 ≤ fi r := by unfold fi; split <;> omega
/-- the last use ahead of instruction k -/
def la0 (code : List In) : Nat → Nat → Int
  | 0, r => fi r
  | k + 1, r => if ∃ x, code[k]? = some x ∧ (r : Int) ∈ x.ins then (k : Int) - 1 else la0 code k r
def la (b : Bk) (r : Nat) : Int := if (r : Int) = b.res then (b.code.length : Int) - 1 else la0 b.code b.code.length r
theorem la0_ge {b : Bk} (h : WfB b) (r : Nat) : ∀ k, k ≤ b.code.length → fi r ≤ la0 b.code k r
  | 0, _ => Int.le_refl _
  | k + 1, hk => by
    unfold la0
    split
    · rename_i c
      obtain ⟨x, e, m⟩ := c
      have := h.ins k x e _ m
      exact fi_le.mpr (by omega)
    · exact la0_ge h r k (by omega)
theorem la0_le {b : Bk} {r : Nat} (hr : fi r ≤ (b.code.length : Int) - 1) : ∀ k, k ≤ b.code.length → la0 b.code k r ≤ (b.code.length : Int) - 1
  | 0, _ => hr
  | k + 1, hk => by
    unfold la0
    split
    · omega
    · exact la0_le hr k (by omega)
theorem la_ge {b : Bk} (h : WfB b) {r : Nat} (hr : r < 3 + b.code.length) : fi r ≤ la b r := by
  unfold la
  split
  · exact fi_le.mpr hr
  · exact la0_ge h r _ (Nat.le_refl _)
theorem la_le {b : Bk} {r : Nat} (hr : r < 3 + b.code.length) : la b r ≤ (b.code.length : Int) - 1 := by
  unfold la
  split
  · exact Int.le_refl _
  · exact la0_le (fi_le.mpr hr) _ (Nat.le_refl _)
theorem la0_iff {b : Bk} (h : WfB b) {r j : Nat} (hj : r < 3 + j) : ∀ k, k ≤ b.code.length → ((j : Int) - 1 ≤ la0 b.code k r ↔ (fi r = (j : Int) - 1 ∨ ∃ i x, j ≤ i ∧ i < k ∧ b.code[i]? = some x ∧ (r : Int) ∈ x.ins))
  | 0, _ => by
    show (j : Int) - 1 ≤ fi r ↔ _
    have := fi_le.mpr hj
    constructor
    · intro z; exact .inl (by omega)
    · rintro (z | ⟨i, x, h1, h2, _⟩) <;> omega
  | k + 1, hk => by
    have ih := la0_iff h hj k (by omega)
    by_cases c : ∃ x, b.code[k]? = some x ∧ (r : Int) ∈ x.ins
    · have e : la0 b.code (k + 1) r = (k : Int) - 1 := if_pos c
      rw [e]
      obtain ⟨x, ex, m⟩ := c
      have lt := h.ins k x ex _ m
      constructor
      · intro z; exact .inr ⟨k, x, by omega, by omega, ex, m⟩
      · rintro (z | ⟨i, y, h1, h2, _⟩)
        · have : fi r ≤ (k : Int) - 1 := fi_le.mpr (by omega)
          omega
        · omega
    · have e : la0 b.code (k + 1) r = la0 b.code k r := if_neg c
      rw [e, ih]
      constructor
      · rintro (z | ⟨i, y, h1, h2, h3, h4⟩)
        · exact .inl z
        · exact .inr ⟨i, y, h1, by omega, h3, h4⟩
      · rintro (z | ⟨i, y, h1, h2, h3, h4⟩)
        · exact .inl z
        · by_cases d : i = k
          · subst d; exact absurd ⟨y, h3, h4⟩ c
          · exact .inr ⟨i, y, h1, by omega, h3, h4⟩
/-- live behind j - 1 as the law says it -/
theorem la_iff {b : Bk} (h : WfB b) {r j : Nat} (hj : r < 3 + j) (hn : j ≤ b.code.length) : (j : Int) - 1 ≤ la b r ↔ ((j = 0 ∨ r = 2 + j) ∨ ((r : Int) = b.res ∨ ∃ i x, j ≤ i ∧ b.code[i]? = some x ∧ (r : Int) ∈ x.ins)) := by
  have ef : fi r = (j : Int) - 1 ↔ (j = 0 ∨ r = 2 + j) := by unfold fi; split <;> omega
  unfold la
  split
  · rename_i c
    constructor
    · intro _; exact .inr (.inl c)
    · intro _; omega
  · rename_i c
    rw [la0_iff h hj _ (Nat.le_refl _), ef]
    constructor
    · rintro (z | ⟨i, y, h1, h2, h3, h4⟩)
      · exact .inl z
      · exact .inr (.inr ⟨i, y, h1, h3, h4⟩)
    · rintro (z | z | ⟨i, y, h1, h3, h4⟩)
      · exact .inl z
      · exact absurd z c
      · exact .inr ⟨i, y, h1, (List.getElem?_eq_some_iff.mp h3).1, h3, h4⟩
/-! ### the rows of live registers -/
def row (b : Bk) (j : Nat) : List Nat := (List.range (3 + j)).filter fun r => decide ((j : Int) - 1 ≤ la b r)
theorem row_mem {b : Bk} {j r : Nat} : r ∈ row b j ↔ r < 3 + j ∧ (j : Int) - 1 ≤ la b r := by simp [row]
theorem row_zero {b : Bk} (h : WfB b) : row b 0 = [0, 1, 2] := by
  have : ∀ r, r < 3 → ((0 : Nat) : Int) - 1 ≤ la b r := fun r hr => by
    have := la_ge h (r := r) (by omega)
    have := fi_ge r
    omega
  exact List.filter_eq_self.mpr fun r hr => decide_eq_true (this r (List.mem_range.mp hr))
theorem row_succ {b : Bk} (h : WfB b) {j : Nat} (hj : j + 1 ≤ b.code.length) : row b (j + 1) = (row b j).filter (fun r => decide ((j : Int) ≤ la b r)) ++ [3 + j] := by
  unfold row
  rw [show 3 + (j + 1) = (3 + j) + 1 by omega, List.range_succ, List.filter_append, List.filter_filter]
  congr 1
  · refine List.filter_congr fun r _ => ?_
    have e : ((j + 1 : Nat) : Int) - 1 = (j : Int) := by omega
    rw [e]
    by_cases c : (j : Int) ≤ la b r
    · have d : (j : Int) - 1 ≤ la b r := by omega
      simp [c, d]
    · simp [c]
  · have := la_ge h (r := 3 + j) (by omega)
    have e : fi (3 + j) = j := by unfold fi; rw [if_neg (by omega)]; omega
    rw [e] at this
    exact List.filter_eq_self.mpr fun r hr => decide_eq_true (by rw [List.mem_singleton.mp hr]; omega)
theorem row_len {b : Bk} (j : Nat) : (row b j).length ≤ 3 + j := Nat.le_trans (List.length_filter_le _ _) (by simp)
theorem row_nodup (b : Bk) (j : Nat) : (row b j).Nodup := List.nodup_range.filter _
theorem row_sorted (b : Bk) (j : Nat) : (row b j).Pairwise (· < ·) := List.pairwise_lt_range.filter _
end K15

namespace K15
open PySem PySem.Spec PyProof.Rows L2
/-- a dict comprehension over a walk -/
theorem dc_it {J : L2.It} {n : Nat} {G : Hp → Prop} {Y : Nat → Hp → V → Hp → Prop} (w : Walk J n G Y) {g : TG} {tt : TT} {tk tv : TE} {vs : List Nat} {σ : L2.St} {H1 : Hp} {D : Addr} {Qd : Hp → Prop} (Pv : Nat → Hp → Prop) (h0 : Pv 0 (upd H1 D (.dK []))) (hG : ∀ i H, i ≤ n → Pv i H → G H)
    (hs : ∀ i x H H', i < n → Pv i H → Y i H x H' → g x (wipe σ vs) H' fun σ2 H2 => wipe σ2 vs = wipe σ vs ∧ tt σ2 H2 fun b H3 =>
      if b = true then tk σ2 H3 fun y H4 => tv σ2 H4 fun z H5 => ∃ kvs k, y = kV k ∧ H5 D = some (.dK kvs) ∧ kvs.length < sizeLine ∧ Pv (i + 1) (upd H5 D (.dK (putK kvs k z))) else Pv (i + 1) H3) (hd : ∀ H, Pv n H → Qd H) :
    ∃ W : Nat → Nat → Hp → Prop, (∃ m, W 0 m (upd H1 D (.dK []))) ∧ ∀ i m H, W i m H →
      (J.stop i H ∧ Qd H) ∨ (J.go i H ∧ ∃ Nx : Hp → Prop, (∀ H', Nx H' → ∃ m', m' < m ∧ W (i + 1) m' H') ∧ ∀ x H', J.yld i H x H' → g x (wipe σ vs) H' fun σ2 H2 => wipe σ2 vs = wipe σ vs ∧ tt σ2 H2 fun b H3 =>
        if b = true then tk σ2 H3 fun y H4 => tv σ2 H4 fun z H5 => ∃ kvs k, y = kV k ∧ H5 D = some (.dK kvs) ∧ kvs.length < sizeLine ∧ Nx (upd H5 D (.dK (putK kvs k z))) else Nx H3) := by
  refine ⟨fun i m H => m = n - i ∧ i ≤ n ∧ Pv i H, ⟨n, by simp, Nat.zero_le _, h0⟩, ?_⟩
  rintro i m H ⟨rfl, hi, p⟩
  have q := hG i H hi p
  by_cases lt : i < n
  · exact .inr ⟨w.goes i H lt q, Pv (i + 1), fun H' p' => ⟨n - (i + 1), by omega, rfl, lt, p'⟩, fun x H' y => hs i x H H' lt p (w.yields i H x H' lt q y)⟩
  · obtain rfl : i = n := by omega
    exact .inl ⟨w.stops H q, hd H p⟩
/-- what stands stands, but at p -/
def But (p : Addr) (H H' : Hp) : Prop := ∀ z o, z ≠ p → H z = some o → H' z = some o
theorem same_upd {H H1 : Hp} {p : Addr} {o : HO} (s : Same H H1) (n : H p = none) : Same H (upd H1 p o) := fun z o e => by rw [upd_ne (ne_of_none e n)]; exact s _ _ e
def NN1 : Nat := 200
section
variable {P : Program} {w : World} {K : PySem.W.Frag} {mg : Str → Option Value} {base : Heap} {a : Ad}
def spForms : Sp := fun vs H Q _ => ∃ (xa : Addr) (x y : V), vs = [.ref xa] ∧ H xa = some (.tup [.str "pair", x, y]) ∧ NumAt [] H x ∧ NumAt [] H y ∧ ∀ (H' : Hp) (q : Addr), Same H H' → H q = none → H' q = some (.lst [.str "pair", .str "num", .str "num"]) → Q (.ref q) H'
theorem ok_forms_of (T : Txt w K mg a) : FnOk P w K mg base CX0 1 a.forms_of.1 a.forms_of.2 ["kind"] spForms := by
  refine T.forms_of.F.ok sc_forms_of (fun vs H Q E h => ?_) (fun cdv A outer s H vs Q E hr h => ?_)
  · obtain ⟨_, _, _, rfl, _⟩ := h
    rfl
  obtain ⟨xa, x, y, rfl, hxa, ⟨x1, rfl, hx, _⟩, ⟨x2, rfl, hy, _⟩, q⟩ := h
  have nd := sc_forms_of.nd
  refine ⟨_, (pss_cons (ps_set (i := 1) nd rfl (Or.inl rfl) (pe_lst pa_nil))
  (pss_cons (ps_set (i := 2) nd rfl (Or.inl rfl) (pe_lst (pa_cons (pv 0) pa_nil)))
  (pss_cons (ps_while PassesOwn.never (pt_truth (pv 2) (by intro _; rfl)) (pss_cons (ps_set (i := 3) nd rfl (Or.inl rfl) (pe_bm0 PySem.F.plainAttrs_list PySem.F.slot_list_pop PySem.F.type_list_pop mt_pop (pv 2)))
  (pss_cons (ps_expr (pe_bm PySem.F.plainAttrs_list PySem.F.slot_list_append PySem.F.type_list_append mt_append (pv 1) (pa_cons (pe_ix ix_tup (pv 3) pe_int (fun _ _ => rfl)) pa_nil)))
  (pss_one (ps_expr (pe_bm PySem.F.plainAttrs_list PySem.F.slot_list_extend PySem.F.type_list_extend (ET.mt_extT) (pv 2) (pa_cons (RT.pe_tail (pv 3)) pa_nil)))))))
  (pss_one (ps_ret (pv 1)))))), ?_⟩
  refine ⟨(by show 0 ≤ sizeLine; decide), fun fo hfo => ?_⟩
  have s1 := same_new hfo (.lst [])
  refine ⟨_, rfl, (by show 1 ≤ sizeLine; decide), fun wt hwt => ?_⟩
  have s2 := same_new hwt (.lst [V.ref xa])
  have ne1 : fo ≠ wt := ne_of_none (upd_same (H := H) (a := fo) (o := .lst [])) hwt
  have wt0 : H wt = none := some_free0 s1 hwt
  refine ⟨fun n σ H' => ∃ (x3 : Option V) (wl fl : List V), σ = [some (.ref xa), some (.ref fo), some (.ref wt), x3] ∧ Same H H' ∧ H' wt = some (.lst wl) ∧ H' fo = some (.lst fl) ∧
    ((n = 3 ∧ wl = [.ref xa] ∧ fl = []) ∨ (n = 2 ∧ wl = [.ref x2, .ref x1] ∧ fl = [.str "pair"]) ∨ (n = 1 ∧ wl = [.ref x2] ∧ fl = [.str "pair", .str "num"]) ∨ (n = 0 ∧ wl = [] ∧ fl = [.str "pair", .str "num", .str "num"])), ⟨3, none, _, _, rfl, s1.trans s2, upd_same, s2 _ _ upd_same, .inl ⟨rfl, rfl, rfl⟩⟩, ?_⟩
  rintro n σ H' ⟨x3, wl, fl, rfl, sm, hw, hf, ⟨rfl, rfl, rfl⟩ | ⟨rfl, rfl, rfl⟩ | ⟨rfl, rfl, rfl⟩ | ⟨rfl, rfl, rfl⟩⟩
  · refine ⟨_, rfl, _, .inl ⟨_, SqL.of hw, rfl⟩, ?_⟩
    refine ifT rfl ?_
    refine ⟨fun σ2 H2 => ∃ x3 : Option V, σ2 = [some (.ref xa), some (.ref fo), some (.ref wt), x3] ∧ Same H H2 ∧ H2 wt = some (.lst [.ref x2, .ref x1]) ∧ H2 fo = some (.lst [.str "pair"]), fun σ2 H2 ⟨a1, e1, h1, h2, h3⟩ => ⟨2, by decide, a1, _, _, e1, h1, h2, h3, .inr (.inl ⟨rfl, rfl, rfl⟩)⟩, ?_⟩
    refine ⟨_, rfl, .inl ⟨rfl, _, SqL.of hw⟩, wt, _, .ref xa, rfl, rfl, hw, rfl, ?_⟩
    obtain ⟨H2, e2⟩ : ∃ H2, upd H' wt (.lst (([.ref xa] : List V).dropLast)) = H2 := ⟨_, rfl⟩
    rw [e2]
    have hw2 : H2 wt = some (.lst []) := by rw [← e2]; exact upd_same
    have hf2 : H2 fo = some (.lst []) := by rw [← e2, upd_ne ne1]; exact hf
    have sm2 : Same H H2 := fun z o e => by rw [← e2, upd_ne (ne_of_none e wt0)]; exact sm _ _ e
    clear e2
    refine ⟨_, rfl, .inl ⟨rfl, _, SqL.of hf2⟩, _, rfl, xa, _, _, _, rfl, rfl, .inl (.inl (sm2 _ _ hxa)), atI_nat (j := 0) rfl, fo, _, _, rfl, rfl, hf2, by show _ < sizeLine; decide, ?_⟩
    obtain ⟨H3, e3⟩ : ∃ H3, upd H2 fo (.lst ([] ++ [V.str "pair"])) = H3 := ⟨_, rfl⟩
    rw [e3]
    have hf3 : H3 fo = some (.lst [.str "pair"]) := by rw [← e3]; exact upd_same
    have hw3 : H3 wt = some (.lst []) := by rw [← e3, upd_ne ne1.symm]; exact hw2
    have sm3 : Same H H3 := fun z o e => by rw [← e3, upd_ne (ne_of_none e hfo)]; exact sm2 _ _ e
    clear e3
    refine ⟨_, rfl, .inl ⟨rfl, _, SqL.of hw3⟩, _, rfl, xa, _, rfl, .inl (.inl (sm3 _ _ hxa)), by simp, by simp, fun d hd => ?_⟩
    have s4 := same_new hd (.tup (List.drop 1 ([.str "pair", .ref x1, .ref x2] : List V)).reverse)
    refine ⟨wt, d, [], [.ref x2, .ref x1], rfl, rfl, s4 _ _ hw3, .inl (.inl upd_same), by simp only [List.length_cons, List.length_nil]; decide, ?_⟩
    refine ⟨_, rfl, fun z o e => ?_, upd_same, ?_⟩
    · rw [upd_ne (ne_of_none e wt0)]; exact s4 _ _ (sm3 _ _ e)
    · rw [upd_ne ne1]; exact s4 _ _ hf3
  · refine ⟨_, rfl, _, .inl ⟨_, SqL.of hw, rfl⟩, ?_⟩
    refine ifT rfl ?_
    refine ⟨fun σ2 H2 => ∃ x3 : Option V, σ2 = [some (.ref xa), some (.ref fo), some (.ref wt), x3] ∧ Same H H2 ∧ H2 wt = some (.lst [.ref x2]) ∧ H2 fo = some (.lst [.str "pair", .str "num"]), fun σ2 H2 ⟨a1, e1, h1, h2, h3⟩ => ⟨1, by decide, a1, _, _, e1, h1, h2, h3, .inr (.inr (.inl ⟨rfl, rfl, rfl⟩))⟩, ?_⟩
    refine ⟨_, rfl, .inl ⟨rfl, _, SqL.of hw⟩, wt, _, .ref x1, rfl, rfl, hw, rfl, ?_⟩
    obtain ⟨H2, e2⟩ : ∃ H2, upd H' wt (.lst (([.ref x2, .ref x1] : List V).dropLast)) = H2 := ⟨_, rfl⟩
    rw [e2]
    have hw2 : H2 wt = some (.lst [.ref x2]) := by rw [← e2]; exact upd_same
    have hf2 : H2 fo = some (.lst [.str "pair"]) := by rw [← e2, upd_ne ne1]; exact hf
    have sm2 : Same H H2 := fun z o e => by rw [← e2, upd_ne (ne_of_none e wt0)]; exact sm _ _ e
    clear e2
    refine ⟨_, rfl, .inl ⟨rfl, _, SqL.of hf2⟩, _, rfl, x1, _, _, _, rfl, rfl, .inl (.inl (sm2 _ _ hx)), atI_nat (j := 0) rfl, fo, _, _, rfl, rfl, hf2, by show _ < sizeLine; decide, ?_⟩
    obtain ⟨H3, e3⟩ : ∃ H3, upd H2 fo (.lst ([.str "pair"] ++ [V.str "num"])) = H3 := ⟨_, rfl⟩
    rw [e3]
    have hf3 : H3 fo = some (.lst [.str "pair", .str "num"]) := by rw [← e3]; exact upd_same
    have hw3 : H3 wt = some (.lst [.ref x2]) := by rw [← e3, upd_ne ne1.symm]; exact hw2
    have sm3 : Same H H3 := fun z o e => by rw [← e3, upd_ne (ne_of_none e hfo)]; exact sm2 _ _ e
    clear e3
    refine ⟨_, rfl, .inl ⟨rfl, _, SqL.of hw3⟩, _, rfl, x1, _, rfl, .inl (.inl (sm3 _ _ hx)), by simp, by simp, fun d hd => ?_⟩
    have s4 := same_new hd (.tup (List.drop 1 ([.str "num"] : List V)).reverse)
    refine ⟨wt, d, [.ref x2], [], rfl, rfl, s4 _ _ hw3, .inl (.inl upd_same), by simp only [List.length_cons, List.length_nil]; decide, ?_⟩
    refine ⟨_, rfl, fun z o e => ?_, upd_same, ?_⟩
    · rw [upd_ne (ne_of_none e wt0)]; exact s4 _ _ (sm3 _ _ e)
    · rw [upd_ne ne1]; exact s4 _ _ hf3
  · refine ⟨_, rfl, _, .inl ⟨_, SqL.of hw, rfl⟩, ?_⟩
    refine ifT rfl ?_
    refine ⟨fun σ2 H2 => ∃ x3 : Option V, σ2 = [some (.ref xa), some (.ref fo), some (.ref wt), x3] ∧ Same H H2 ∧ H2 wt = some (.lst []) ∧ H2 fo = some (.lst [.str "pair", .str "num", .str "num"]), fun σ2 H2 ⟨a1, e1, h1, h2, h3⟩ => ⟨0, by decide, a1, _, _, e1, h1, h2, h3, .inr (.inr (.inr ⟨rfl, rfl, rfl⟩))⟩, ?_⟩
    refine ⟨_, rfl, .inl ⟨rfl, _, SqL.of hw⟩, wt, _, .ref x2, rfl, rfl, hw, rfl, ?_⟩
    obtain ⟨H2, e2⟩ : ∃ H2, upd H' wt (.lst (([.ref x2] : List V).dropLast)) = H2 := ⟨_, rfl⟩
    rw [e2]
    have hw2 : H2 wt = some (.lst []) := by rw [← e2]; exact upd_same
    have hf2 : H2 fo = some (.lst [.str "pair", .str "num"]) := by rw [← e2, upd_ne ne1]; exact hf
    have sm2 : Same H H2 := fun z o e => by rw [← e2, upd_ne (ne_of_none e wt0)]; exact sm _ _ e
    clear e2
    refine ⟨_, rfl, .inl ⟨rfl, _, SqL.of hf2⟩, _, rfl, x2, _, _, _, rfl, rfl, .inl (.inl (sm2 _ _ hy)), atI_nat (j := 0) rfl, fo, _, _, rfl, rfl, hf2, by show _ < sizeLine; decide, ?_⟩
    obtain ⟨H3, e3⟩ : ∃ H3, upd H2 fo (.lst ([.str "pair", .str "num"] ++ [V.str "num"])) = H3 := ⟨_, rfl⟩
    rw [e3]
    have hf3 : H3 fo = some (.lst [.str "pair", .str "num", .str "num"]) := by rw [← e3]; exact upd_same
    have hw3 : H3 wt = some (.lst []) := by rw [← e3, upd_ne ne1.symm]; exact hw2
    have sm3 : Same H H3 := fun z o e => by rw [← e3, upd_ne (ne_of_none e hfo)]; exact sm2 _ _ e
    clear e3
    refine ⟨_, rfl, .inl ⟨rfl, _, SqL.of hw3⟩, _, rfl, x2, _, rfl, .inl (.inl (sm3 _ _ hy)), by simp, by simp, fun d hd => ?_⟩
    have s4 := same_new hd (.tup (List.drop 1 ([.str "num"] : List V)).reverse)
    refine ⟨wt, d, [], [], rfl, rfl, s4 _ _ hw3, .inl (.inl upd_same), by simp only [List.length_cons, List.length_nil]; decide, ?_⟩
    refine ⟨_, rfl, fun z o e => ?_, upd_same, ?_⟩
    · rw [upd_ne (ne_of_none e wt0)]; exact s4 _ _ (sm3 _ _ e)
    · rw [upd_ne ne1]; exact s4 _ _ hf3
  · refine ⟨_, rfl, _, .inl ⟨_, SqL.of hw, rfl⟩, ?_⟩
    exact ifF rfl ⟨_, rfl, q H' fo sm hfo hf⟩
def spCount : Sp := fun vs H Q _ => ∃ (v : V), vs = [v] ∧ PairAt [] H v ∧ ∀ H', Same H H' → Q (.int 2) H'
theorem ok_vector_count (T : Txt w K mg a) : FnOk P w K mg base CX0 2 a.vector_count.1 a.vector_count.2 ["kind"] spCount := by
  refine T.vector_count.F.ok sc_vector_count (fun vs H Q E h => ?_) (fun cdv A outer s H vs Q E hr h => ?_)
  · obtain ⟨_, rfl, _⟩ := h
    rfl
  obtain ⟨v, rfl, ⟨xa, x, y, rfl, hxa, _, hx, hy⟩, q⟩ := h
  have nd := sc_vector_count.nd
  have G_forms_of := ok_forms_of (P := P) (w := w) (base := base) T
  refine ⟨_, (pss_one (ps_ret (pe_callB call_len_seq (by rfl) T.len PySem.boot_len (pa_cons (pe_lc (own := [("form", 1)]) (g := gName 1) rfl nd (pi_list (pe_call G_forms_of (hr.mono (by omega)) rfl T.forms_of.g T.forms_of.F.kp T.forms_of.b .nil pass0 (pa_cons (pv 0) pa_nil))) (blkOk_by (N := ["kind", "form"]) (sc := defScope s_vector_count) (by decide +kernel)) (fun _ _ _ _ _ => (pg_name (i := 1) nd rfl (Or.inl rfl))) (fun _ _ _ _ _ => (pts_one (pt_cmpR op_ne (pv 1) pe_str (nomark _)))) (fun _ _ _ _ _ => (pv 1))) pa_nil)))), ?_⟩
  refine ⟨_, rfl, xa, x, y, rfl, hxa, hx, hy, fun H1 fo s1 nfo hfo => ?_⟩
  refine ⟨fo, rfl, ⟨_, SqL.of hfo⟩, fun D nD => lc_it (walk_list (K := K) (a := fo) (xs := [V.str "pair", .str "num", .str "num"])) (fun i H2 => Same H1 H2 ∧ H2 D = some (.lst (([V.str "pair", .str "num", .str "num"].take i).drop 1))) ⟨same_new nD _, upd_same⟩ (fun i H2 _ h => SqL.of (h.1 _ _ hfo)) ?_ ?_⟩
  · rintro i y Hx H2 hi ⟨sm, hD⟩ ⟨rfl, hy'⟩
    match i, hi, hy', hD with
    | 0, _, hy', hD =>
      obtain rfl : V.str "pair" = y := Option.some.inj hy'
      refine ⟨rfl, _, rfl, rfl, _, rfl, ?_⟩
      exact ifF (by decide +kernel) ⟨sm, hD⟩
    | 1, _, hy', hD =>
      obtain rfl : V.str "num" = y := Option.some.inj hy'
      refine ⟨rfl, _, rfl, rfl, _, rfl, ?_⟩
      refine ifT (by decide +kernel) ⟨_, rfl, _, hD, by decide, fun z o ez => ?_, upd_same⟩
      rw [upd_ne (ne_of_none ez nD)]; exact sm _ _ ez
    | 2, _, hy', hD =>
      obtain rfl : V.str "num" = y := Option.some.inj hy'
      refine ⟨rfl, _, rfl, rfl, _, rfl, ?_⟩
      refine ifT (by decide +kernel) ⟨_, rfl, _, hD, by decide, fun z o ez => ?_, upd_same⟩
      rw [upd_ne (ne_of_none ez nD)]; exact sm _ _ ez
    | i + 3, hi, _, _ => exact absurd hi (by simp)
  · rintro H2 ⟨sm, hD⟩
    exact ⟨D, _, rfl, .inl (SqL.of hD), q H2 (s1.trans sm)⟩
end
end K15

namespace K15
open PySem PySem.Spec PyProof.Rows L2
theorem insAt_get {X : List Addr} {H : Hp} {code : List In} {vs : List V} (h : InsAt X H code vs) {i : Nat} {v : V} (e : vs[i]? = some v) : ∃ x t a b, code[i]? = some x ∧ v = .ref t ∧ H t = some (.tup [.str x.nm, x.ex, .ref a, .ref b]) ∧ H a = some (.lst (iv x.ins)) ∧ H b = some (.lst [.int x.out]) := by
  obtain ⟨x, ex, t, a, b, h1, h2, h3, h4, _⟩ := h.get e
  exact ⟨x, t, a, b, ex, h1, h2, h3, h4⟩
def spf (b : Bk) (r : Nat) : V := .int (fi r)
/-- the dict of the spans: at q, its pairs at ts -/
def SpanAt (K : PySem.W.Frag) (H : Hp) (b : Bk) (q : Addr) (ts : Nat → Addr) : Prop := ∀ r, r < 3 + b.code.length → H (ts r) = some (.tup [.int (fi r), .int (la b r)])
theorem SpanAt.same {K : PySem.W.Frag} {H H' : Hp} {b : Bk} {q : Addr} {ts : Nat → Addr} (h : SpanAt K H b q ts) (s : Same H H') : SpanAt K H' b q ts := fun r hr => s _ _ (h r hr)
section
variable {P : Program} {w : World} {K : PySem.W.Frag} {mg : Str → Option Value} {base : Heap} {a : Ad}
def spSpans (K : PySem.W.Frag) : Sp := fun vs H Q _ => ∃ (nm : Str) (b : Bk) (v : V), vs = [v] ∧ BlkAt [] H nm b v ∧ WfB b ∧
  ∀ (H' : Hp) (q : Addr) (ts : Nat → Addr), Same H H' → H q = none → H' q = some (.dK (dl (3 + b.code.length) fun r => .ref (ts r))) → SpanAt K H' b q ts → Q (.ref q) H'
theorem ok_spans_of (T : Txt w K mg a) : FnOk P w K mg base CX0 3 a.spans_of.1 a.spans_of.2 ["block"] (spSpans K) := by
  refine T.spans_of.F.ok sc_spans_of (fun vs H Q E h => ?_) (fun cdv A outer s H vs Q E hr h => ?_)
  · obtain ⟨_, _, _, rfl, _⟩ := h
    rfl
  obtain ⟨nm, b, v, rfl, ⟨t, cp, rp, pv_, nv, vs, rfl, ht, hP, _, hcp, hins, hrp, _⟩, wf, q⟩ := h
  have nd := sc_spans_of.nd
  have hu := hu_of hr
  have G_vector_count := ok_vector_count (P := P) (w := w) (base := base) T
  have vl := hins.len
  have n37 := wf.len
  refine ⟨_, (pss_cons (ps_asg (pv 0) (pg_tup rfl (pgs_cons (pg_name (i := 1) nd rfl (Or.inl rfl)) (pgs_cons (pg_name (i := 1) nd rfl (Or.inl rfl)) (pgs_cons (pg_name (i := 2) nd rfl (Or.inl rfl)) (pgs_cons (pg_name (i := 1) nd rfl (Or.inl rfl)) (pgs_cons (pg_name (i := 3) nd rfl (Or.inl rfl)) (pgs_cons (pg_name (i := 4) nd rfl (Or.inl rfl)) pgs_nil))))))))
  (pss_cons (ps_set (i := 6) nd rfl (Or.inr rfl) (pe_dc (own := [("number", 5)]) (g := gName 5) (tt := tYes) rfl nd (pi_range1 rfl T.range (pa_cons (pe_op op_add (pe_call G_vector_count (hr.mono (by omega)) rfl T.vector_count.g T.vector_count.F.kp T.vector_count.b .nil pass0 (pa_cons (pv 2) pa_nil)) pe_int) pa_nil)) (blkOk_by (N := ["block", "_", "given", "code", "results", "number", "firsts", "at", "outputs", "lasts", "inputs"]) (sc := defScope s_spans_of) (by decide +kernel)) (fun _ _ _ _ _ => (pg_name (i := 5) nd rfl (Or.inl rfl))) (fun _ _ _ _ _ => pts_nil) (fun _ _ _ _ _ => (pv 5)) (fun _ _ _ _ _ => (pe_un un_neg pe_int))))
  (pss_cons (ps_for PassesOwn.never rfl (pi_enum (by rfl) T.enumerate (pa_cons (pv 3) pa_nil)) (pg_tup rfl (pgs_cons (pg_name (i := 7) nd rfl (Or.inl rfl)) (pgs_cons (pg_tup rfl (pgs_cons (pg_name (i := 1) nd rfl (Or.inl rfl)) (pgs_cons (pg_name (i := 1) nd rfl (Or.inl rfl)) (pgs_cons (pg_name (i := 1) nd rfl (Or.inl rfl)) (pgs_cons (pg_name (i := 8) nd rfl (Or.inl rfl)) pgs_nil))))) pgs_nil))) (pss_one (ps_for PassesOwn.never rfl (pi_list (pv 8)) (pg_name (i := 5) nd rfl (Or.inl rfl)) (pss_one (ps_dput hu (pv 6) (pv 5) (pv 7) rfl)))))
  (pss_cons (ps_set (i := 9) nd rfl (Or.inr rfl) (pe_dc (own := [("number", 5)]) (g := gName 5) (tt := tYes) rfl nd (pi_keys (HE.pe_frz (pv 6))) (blkOk_by (N := ["block", "_", "given", "code", "results", "number", "firsts", "at", "outputs", "lasts", "inputs"]) (sc := defScope s_spans_of) (by decide +kernel)) (fun _ _ _ _ _ => (pg_name (i := 5) nd rfl (Or.inl rfl))) (fun _ _ _ _ _ => pts_nil) (fun _ _ _ _ _ => (pv 5)) (fun _ _ _ _ _ => (pe_dget hu (pv 6) (pv 5) (fun _ _ => rfl)))))
  (pss_cons (ps_for PassesOwn.never rfl (pi_enum (by rfl) T.enumerate (pa_cons (pv 3) pa_nil)) (pg_tup rfl (pgs_cons (pg_name (i := 7) nd rfl (Or.inl rfl)) (pgs_cons (pg_tup rfl (pgs_cons (pg_name (i := 1) nd rfl (Or.inl rfl)) (pgs_cons (pg_name (i := 1) nd rfl (Or.inl rfl)) (pgs_cons (pg_name (i := 10) nd rfl (Or.inl rfl)) (pgs_cons (pg_name (i := 1) nd rfl (Or.inl rfl)) pgs_nil))))) pgs_nil))) (pss_one (ps_for PassesOwn.never rfl (pi_list (pv 10)) (pg_name (i := 5) nd rfl (Or.inl rfl)) (pss_one (ps_dput hu (pv 9) (pv 5) (pe_op op_sub (pv 7) pe_int) rfl)))))
  (pss_cons (ps_for PassesOwn.never rfl (pi_list (pv 4)) (pg_name (i := 5) nd rfl (Or.inl rfl)) (pss_one (ps_dput hu (pv 9) (pv 5) (pe_op op_sub (pe_callB call_len_seq (by rfl) T.len PySem.boot_len (pa_cons (pv 3) pa_nil)) pe_int) rfl)))
  (pss_one (ps_ret (pe_dc (own := [("number", 5)]) (g := gName 5) (tt := tYes) rfl nd (pi_keys (pv 6)) (blkOk_by (N := ["block", "_", "given", "code", "results", "number", "firsts", "at", "outputs", "lasts", "inputs"]) (sc := defScope s_spans_of) (by decide +kernel)) (fun _ _ _ _ _ => (pg_name (i := 5) nd rfl (Or.inl rfl))) (fun _ _ _ _ _ => pts_nil) (fun _ _ _ _ _ => (pv 5)) (fun _ _ _ _ _ => (pe_tup (pa_cons (pe_dget hu (pv 6) (pv 5) (fun _ _ => rfl)) (pa_cons (pe_dget hu (pv 9) (pv 5) (fun _ _ => rfl)) pa_nil))))))))))))), ?_⟩
  refine ⟨_, rfl, t, _, rfl, .inl (.inl ht), rfl, _, _, rfl, _, _, rfl, _, _, rfl, _, _, rfl, _, _, rfl, _, _, rfl, rfl, ?_⟩
  refine ⟨_, rfl, _, rfl, hP, fun H1 s1 => ⟨_, _, rfl, rfl, _, rfl, by decide, by decide, fun D nD => dc_it (walk_range (lo := 0) (n := 3)) (fun i H2 => Same H1 H2 ∧ H2 D = some (.dK (dl i (spf b)))) ⟨same_new nD _, upd_same⟩ (fun _ _ _ _ => trivial) ?_ ?_⟩⟩
  · rintro i y Hx H2 hi ⟨sm, hD⟩ ⟨rfl, rfl⟩
    refine ⟨rfl, _, rfl, _, rfl, _, .inl (i : Int), congrArg V.int (Int.zero_add _), hD, by rw [dl_len]; exact small1000 (by omega), same_upd sm nD, ?_⟩
    rw [upd_same, dl_new]
    refine congrArg (fun z => some (HO.dK z)) (dl_congr fun r hr => ?_)
    by_cases c : r = i
    · rw [if_pos c]; unfold spf fi; rw [if_pos (by omega)]
    · rw [if_neg c]
  rintro H2 ⟨s2, hD2⟩
  have s02 := s1.trans s2
  have D0 : H D = none := some_free0 s1 nD
  -- the outputs
  refine ⟨_, rfl, cp, _, rfl, SqL.of (s02 _ _ hcp), for_it (walk_enum (K := K) (a := cp) (xs := vs)) (fun i σ H3 => ∃ v1 v5 v7 v8 : Option V, σ = [some (.ref t), v1, some pv_, some (.ref cp), some (.ref rp), v5, some (.ref D), v7, v8, none, none] ∧ Same H H3 ∧ H3 D = some (.dK (dl (3 + i) (spf b)))) ⟨_, _, none, none, rfl, s02, hD2⟩ (fun i σ H3 _ h => by obtain ⟨_, _, _, _, _, sm, _⟩ := h; exact SqL.of (sm _ _ hcp)) ?_ ?_⟩
  · rintro i y σ H3 H3' hi ⟨v1, v5, v7, v8, rfl, sm, hD⟩ ⟨te, e1, e2, rfl, nte, rfl, ee1, ee2⟩
    obtain rfl := Option.some.inj ee1
    obtain ⟨x, tx, aa, bb, ex, rfl, htx, haa, hbb⟩ := insAt_get (hins.fr (Fr.of sm)) ee2
    have s4 := same_new nte (.tup [V.int (i : Nat), V.ref tx])
    have xo := wf.out i x ex
    rw [xo] at hbb
    refine ⟨te, _, rfl, .inl (.inl upd_same), rfl, _, _, rfl, _, _, rfl, tx, _, rfl, .inl (.inl (s4 _ _ htx)), rfl, _, _, rfl, _, _, rfl, _, _, rfl, _, _, rfl, rfl, rfl, ?_⟩
    have sm4 := sm.trans s4
    refine ⟨_, rfl, bb, rfl, ⟨_, SqL.of (s4 _ _ hbb)⟩, for_list (K := K) (a := bb) (xs := [V.int (3 + (i : Int))]) (fun j σ H5 => ∃ v5 : Option V, σ = [some (.ref t), some (.ref aa), some pv_, some (.ref cp), some (.ref rp), v5, some (.ref D), some (.int (i : Nat)), some (.ref bb), none, none] ∧ Same H H5 ∧ H5 bb = some (.lst [V.int (3 + (i : Int))]) ∧ H5 D = some (.dK (dl (3 + i + j) (spf b)))) ⟨v5, rfl, sm4, s4 _ _ hbb, s4 _ _ hD⟩ (fun j σ H5 _ h => by obtain ⟨_, _, _, h5, _⟩ := h; exact SqL.of h5) ?_ ?_⟩
    · rintro j z σ H5 hj ⟨v5, rfl, sm5, h5b, h5D⟩
      have j0 : j = 0 := by
        have := (List.getElem?_eq_some_iff.mp hj).1
        simpa using this
      subst j0
      obtain rfl := Option.some.inj hj
      have nbD : bb ≠ D := fun z => by rw [z, h5D] at h5b; cases h5b
      refine ⟨_, rfl, _, rfl, _, rfl, D, _, rfl, DPut.k (k := Sum.inl (3 + (i : Int))) h5D (by rw [dl_len]; exact small1000 (by omega)), some (.int (3 + (i : Int))), rfl, same_upd sm5 D0, by rw [upd_ne nbD]; exact h5b, ?_⟩
      have ek : (3 : Int) + (i : Int) = ((3 + i : Nat) : Int) := by omega
      rw [upd_same, ek, Nat.add_zero, dl_new]
      refine congrArg (fun z => some (HO.dK z)) (dl_congr fun r hr => ?_)
      by_cases c : r = 3 + i
      · rw [if_pos c, c]
        show _ = V.int (fi (3 + i))
        unfold fi
        rw [if_neg (by omega)]
        exact congrArg V.int (by omega)
      · rw [if_neg c]
    · rintro σ H5 ⟨v5, rfl, sm5, h5b, h5D⟩
      exact ⟨_, _, _, _, rfl, sm5, h5D⟩
  rintro σ H3 ⟨v1, v5, v7, v8, rfl, sm3, hD3⟩
  rw [vl] at hD3
  -- the second dict
  have ne_frz : ∀ {z : Addr} {o o' : HO} {G : Hp}, H z = some o' → Same H G → Same H (upd G D o) := fun _ sm => same_upd sm D0
  refine ⟨_, rfl, D, _, rfl, hD3, fun od => ⟨D, od, rfl, .inl ⟨_, upd_same, fun L nL => dc_it walk_keys (fun i H4 => Same H H4 ∧ H4 D = some (.frz od (.dK (dl (3 + b.code.length) (spf b)))) ∧ H4 L = some (.dK (dl i (spf b)))) ⟨(same_upd sm3 D0).trans (same_new nL _), same_new nL _ _ _ upd_same, upd_same⟩ (fun i H4 _ h => h.2.1) ?_ ?_⟩⟩⟩
  · rintro i y Hx H4 hi ⟨sm4, hf4, hL4⟩ ⟨rfl, k, v, hk, rfl⟩
    rw [dl_len] at hi
    rw [dl_at hi] at hk
    cases hk
    have L0 : H L = none := some_free0 (same_upd sm3 D0) nL
    have nLD : D ≠ L := fun z => by rw [z, hL4] at hf4; cases hf4
    refine ⟨rfl, _, rfl, _, rfl, _, rfl, D, _, rfl, .inl ⟨_, .inl (i : Int), .inr ⟨od, hf4⟩, rfl, (dl_get hi).symm⟩, _, .inl (i : Int), rfl, hL4, by rw [dl_len]; exact small1000 (by omega), same_upd sm4 L0, by rw [upd_ne nLD]; exact hf4, ?_⟩
    rw [upd_same, dl_new]
    refine congrArg (fun z => some (HO.dK z)) (dl_congr fun r hr => ?_)
    by_cases c : r = i
    · rw [if_pos c, c]
    · rw [if_neg c]
  rintro H4 ⟨sm4, hf4, hL4⟩
  rw [dl_len] at hL4
  have L0 : H L = none := some_free0 (same_upd sm3 D0) nL
  have nLD : D ≠ L := fun z => by rw [z, hL4] at hf4; cases hf4
  let N := 3 + b.code.length
  -- the uses
  have ent : ∀ {i : Nat} {x : In}, b.code[i]? = some x → ∀ {z : Int}, z ∈ x.ins → ∃ r : Nat, z = (r : Int) ∧ r < 3 + b.code.length := fun {i x} ex {z} hz => by
    have := wf.ins i x ex z hz
    have l := (List.getElem?_eq_some_iff.mp ex).1
    exact ⟨z.toNat, by omega, by omega⟩
  refine ⟨_, rfl, cp, _, rfl, SqL.of (sm4 _ _ hcp), for_it (walk_enum (K := K) (a := cp) (xs := vs)) (fun i σ H5 => ∃ v1 v5 v7 v8 v10 : Option V, σ = [some (.ref t), v1, some pv_, some (.ref cp), some (.ref rp), v5, some (.ref D), v7, v8, some (.ref L), v10] ∧ Same H H5 ∧ H5 D = some (.frz od (.dK (dl (3 + b.code.length) (spf b)))) ∧ H5 L = some (.dK (dl (3 + b.code.length) (fun r => .int (la0 b.code i r))))) ⟨v1, v5, v7, v8, none, rfl, sm4, hf4, hL4⟩ (fun i σ H5 _ h => by obtain ⟨_, _, _, _, _, _, sm, _⟩ := h; exact SqL.of (sm _ _ hcp)) ?_ ?_⟩
  · rintro i y σ H5 H5' hi ⟨v1, v5, v7, v8, v10, rfl, sm, hf, hL⟩ ⟨te, e1, e2, rfl, nte, rfl, ee1, ee2⟩
    obtain rfl := Option.some.inj ee1
    obtain ⟨x, tx, aa, bb, ex, rfl, htx, haa, hbb⟩ := insAt_get (hins.fr (Fr.of sm)) ee2
    have s6 := same_new nte (.tup [V.int (i : Nat), V.ref tx])
    refine ⟨te, _, rfl, .inl (.inl upd_same), rfl, _, _, rfl, _, _, rfl, tx, _, rfl, .inl (.inl (s6 _ _ htx)), rfl, _, _, rfl, _, _, rfl, _, _, rfl, _, _, rfl, rfl, rfl, ?_⟩
    have sm6 := sm.trans s6
    refine ⟨_, rfl, aa, rfl, ⟨_, SqL.of (s6 _ _ haa)⟩, for_list (K := K) (a := aa) (xs := iv x.ins) (fun j σ H7 => ∃ v5 : Option V, σ = [some (.ref t), some (.ref bb), some pv_, some (.ref cp), some (.ref rp), v5, some (.ref D), some (.int (i : Nat)), v8, some (.ref L), some (.ref aa)] ∧ Same H H7 ∧ H7 aa = some (.lst (iv x.ins)) ∧ H7 D = some (.frz od (.dK (dl (3 + b.code.length) (spf b)))) ∧ H7 L = some (.dK (dl (3 + b.code.length) (fun r => .int (if (r : Int) ∈ x.ins.take j then (i : Int) - 1 else la0 b.code i r))))) ⟨v5, rfl, sm6, s6 _ _ haa, s6 _ _ hf, ?_⟩ (fun j σ H7 _ h => by obtain ⟨_, _, _, h7, _⟩ := h; exact SqL.of h7) ?_ ?_⟩
    · rw [s6 _ _ hL]
      exact congrArg (fun z => some (HO.dK z)) (dl_congr fun r hr => by rw [if_neg (by rw [List.take_zero]; exact List.not_mem_nil)])
    · rintro j z σ H7 hj ⟨v5, rfl, sm7, ha7, hf7, hL7⟩
      obtain ⟨z0, hz0, rfl⟩ := iv_get hj
      obtain ⟨r0, rfl, hr0⟩ := ent ex (List.mem_of_getElem? hz0)
      have naL : aa ≠ L := fun z => by rw [z, hL7] at ha7; cases ha7
      have nDL : D ≠ L := fun z => by rw [z, hL7] at hf7; cases hf7
      refine ⟨_, rfl, _, _, rfl, rfl, _, rfl, _, rfl, L, _, rfl, DPut.k (k := Sum.inl (r0 : Int)) hL7 (by rw [dl_len]; exact small1000 (by omega)), some (.int (r0 : Int)), rfl, same_upd sm7 L0, by rw [upd_ne naL]; exact ha7, by rw [upd_ne nDL]; exact hf7, ?_⟩
      rw [upd_same, dl_put _ _ hr0]
      refine congrArg (fun z => some (HO.dK z)) (dl_congr fun r hr => ?_)
      rw [List.take_add_one, hz0]
      show _ = V.int (if (r : Int) ∈ x.ins.take j ++ [(r0 : Int)] then (i : Int) - 1 else la0 b.code i r)
      by_cases c : r = r0
      · rw [if_pos c, if_pos (by rw [c]; simp)]
      · rw [if_neg c]
        have : ((r : Int) ∈ x.ins.take j ++ [(r0 : Int)]) ↔ (r : Int) ∈ x.ins.take j := by
          rw [List.mem_append, List.mem_singleton]
          constructor
          · rintro (h | h)
            · exact h
            · omega
          · exact .inl
        by_cases d : (r : Int) ∈ x.ins.take j
        · rw [if_pos d, if_pos (this.mpr d)]
        · rw [if_neg d, if_neg (fun z => d (this.mp z))]
    · rintro σ H7 ⟨v5, rfl, sm7, ha7, hf7, hL7⟩
      refine ⟨_, _, _, _, _, rfl, sm7, hf7, ?_⟩
      rw [hL7, iv_len, List.take_length]
      refine congrArg (fun z => some (HO.dK z)) (dl_congr fun r hr => congrArg V.int ?_)
      show _ = if ∃ x, b.code[i]? = some x ∧ (r : Int) ∈ x.ins then (i : Int) - 1 else la0 b.code i r
      by_cases d : (r : Int) ∈ x.ins
      · rw [if_pos d, if_pos ⟨x, ex, d⟩]
      · rw [if_neg d, if_neg]
        rintro ⟨y, ey, hy⟩
        rw [ex] at ey; cases ey
        exact d hy
  rintro σ H5 ⟨v1, v5, v7, v8, v10, rfl, sm5, hf5, hL5⟩
  rw [vl] at hL5
  -- the results
  obtain ⟨rr, er, hr3⟩ : ∃ r : Nat, b.res = (r : Int) ∧ r < 3 + b.code.length := ⟨b.res.toNat, by have := wf.res; omega, by have := wf.res; omega⟩
  have hrp5 := sm5 _ _ hrp
  rw [er] at hrp5
  refine ⟨_, rfl, rp, rfl, ⟨_, SqL.of hrp5⟩, for_list (K := K) (a := rp) (xs := [V.int (rr : Int)]) (fun j σ H7 => ∃ v5 : Option V, σ = [some (.ref t), v1, some pv_, some (.ref cp), some (.ref rp), v5, some (.ref D), v7, v8, some (.ref L), v10] ∧ Same H H7 ∧ H7 rp = some (.lst [V.int (rr : Int)]) ∧ H7 D = some (.frz od (.dK (dl (3 + b.code.length) (spf b)))) ∧ H7 L = some (.dK (dl (3 + b.code.length) (fun r => .int (if j = 0 then la0 b.code b.code.length r else la b r))))) ⟨v5, rfl, sm5, hrp5, hf5, hL5⟩ (fun j σ H7 _ h => by obtain ⟨_, _, _, h7, _⟩ := h; exact SqL.of h7) ?_ ?_⟩
  · rintro j z σ H7 hj ⟨v5, rfl, sm7, hr7, hf7, hL7⟩
    have j0 : j = 0 := by
      have := (List.getElem?_eq_some_iff.mp hj).1
      simpa using this
    subst j0
    obtain rfl := Option.some.inj hj
    have nrL : rp ≠ L := fun z => by rw [z, hL7] at hr7; cases hr7
    have nDL : D ≠ L := fun z => by rw [z, hL7] at hf7; cases hf7
    refine ⟨_, rfl, cp, _, rfl, .inl (SqL.of (sm7 _ _ hcp)), _, _, rfl, rfl, _, rfl, _, rfl, L, _, rfl, DPut.k (k := Sum.inl (rr : Int)) hL7 (by rw [dl_len]; exact small1000 (by omega)), some (.int (rr : Int)), rfl, same_upd sm7 L0, by rw [upd_ne nrL]; exact hr7, by rw [upd_ne nDL]; exact hf7, ?_⟩
    rw [upd_same, dl_put _ _ hr3]
    refine congrArg (fun z => some (HO.dK z)) (dl_congr fun r hr => ?_)
    rw [if_neg (Nat.succ_ne_zero 0), if_pos rfl, vl]
    unfold la
    rw [er]
    by_cases c : r = rr
    · rw [if_pos c, if_pos (by rw [c])]
    · rw [if_neg c, if_neg (by omega)]
  rintro σ H7 ⟨v5, rfl, sm7, hr7, hf7, hL7⟩
  have hL7' : H7 L = some (.dK (dl (3 + b.code.length) (fun r => .int (la b r)))) := hL7
  -- the pairs
  refine ⟨_, rfl, D, od, rfl, .inl ⟨_, hf7, fun R nR => dc_it walk_keys (fun i H8 => ∃ ts : Nat → Addr, Same H7 H8 ∧ H8 R = some (.dK (dl i fun r => .ref (ts r))) ∧ ∀ r, r < i → H8 (ts r) = some (.tup [.int (fi r), .int (la b r)])) ⟨fun _ => 0, same_new nR _, upd_same, fun r hr => absurd hr (by omega)⟩ (fun i H8 _ h => by obtain ⟨_, s8, _⟩ := h; exact s8 _ _ hf7) ?_ ?_⟩⟩
  · rintro i y Hx H8 hi ⟨ts, sm8, hR8, hts⟩ ⟨rfl, k, v, hk, rfl⟩
    rw [dl_len] at hi
    rw [dl_at hi] at hk
    cases hk
    refine ⟨rfl, _, rfl, _, rfl, _, rfl, D, _, rfl, .inl ⟨_, .inl (i : Int), .inr ⟨od, sm8 _ _ hf7⟩, rfl, (dl_get hi).symm⟩, _, rfl, _, rfl, L, _, rfl, .inl ⟨_, .inl (i : Int), .inl (sm8 _ _ hL7'), rfl, (dl_get hi).symm⟩, (by show 2 ≤ sizeLine; decide), fun tp ntp => ?_⟩
    have s9 := same_new ntp (.tup [spf b i, V.int (la b i)])
    have ntR : tp ≠ R := fun z => by rw [z, hR8] at ntp; cases ntp
    refine ⟨_, .inl (i : Int), rfl, s9 _ _ hR8, by rw [dl_len]; exact small1000 (by omega), fun r => if r = i then tp else ts r, same_upd (sm8.trans s9) nR, ?_, fun r hr => ?_⟩
    · rw [upd_same, dl_new]
      refine congrArg (fun z => some (HO.dK z)) (dl_congr fun r hr => ?_)
      show _ = V.ref (if r = i then tp else ts r)
      by_cases c : r = i
      · rw [if_pos c, if_pos c]
      · rw [if_neg c, if_neg c]
    · show upd _ R _ (if r = i then tp else ts r) = _
      by_cases c : r = i
      · rw [if_pos c, upd_ne ntR, upd_same, c]; rfl
      · rw [if_neg c]
        have e := hts r (by omega)
        rw [upd_ne (fun z => by rw [z, hR8] at e; cases e)]
        exact s9 _ _ e
  rintro H8 ⟨ts, sm8, hR8, hts⟩
  rw [dl_len] at hR8 hts
  exact q H8 R ts (sm7.trans sm8) (some_free0 sm7 nR) hR8 hts
end
end K15

namespace K15
open PySem PySem.Spec PyProof.Rows L2
theorem VecsAt.upd {K : PySem.W.Frag} {H : Hp} {q : Addr} {o : HO} : ∀ {as : List Addr} {xss : List (List Int)}, VecsAt K H as xss → q ∉ as → VecsAt K (upd H q o) as xss
  | [], [], _, _ => trivial
  | b :: r, _ :: _, ⟨x, y⟩, n => ⟨by rw [upd_ne (fun z => n (by rw [z]; exact List.mem_cons_self ..))]; exact x, y.upd fun z => n (List.mem_cons_of_mem _ z)⟩
  | [], _ :: _, h, _ => h.elim
  | _ :: _, [], h, _ => h.elim
theorem VecsAt.snoc {K : PySem.W.Frag} {H : Hp} {d : Addr} {x : List Int} (hd : H d = some (.lst (iv x))) : ∀ {as : List Addr} {xss : List (List Int)}, VecsAt K H as xss → VecsAt K H (as ++ [d]) (xss ++ [x])
  | [], [], _ => ⟨hd, trivial⟩
  | b :: r, _ :: _, ⟨x, y⟩ => ⟨x, y.snoc hd⟩
  | [], _ :: _, h => h.elim
  | _ :: _, [], h => h.elim
theorem VecsAt.get {K : PySem.W.Frag} {H : Hp} {x : List Int} : ∀ {as : List Addr} {xss : List (List Int)} {i : Nat}, VecsAt K H as xss → xss[i]? = some x → ∃ b, as[i]? = some b ∧ H b = some (.lst (iv x))
  | b :: _, y :: _, 0, ⟨h, _⟩, e => ⟨b, rfl, by obtain rfl : y = x := Option.some.inj e; exact h⟩
  | _ :: _, _ :: _, i + 1, ⟨_, h⟩, e => h.get (i := i) e
  | _, [], i, _, e => by simp at e
  | [], _ :: _, _, h, _ => h.elim
theorem VecsAt.len {K : PySem.W.Frag} {H : Hp} : ∀ {as : List Addr} {xss : List (List Int)}, VecsAt K H as xss → as.length = xss.length
  | [], [], _ => rfl
  | _ :: _, _ :: _, ⟨_, h⟩ => congrArg (· + 1) h.len
  | [], _ :: _, h => h.elim
  | _ :: _, [], h => h.elim
def ivn (l : List Nat) : List Int := l.map fun (r : Nat) => (r : Int)
theorem ivn_len (l : List Nat) : (ivn l).length = l.length := by simp [ivn]
theorem ivn_app (l m : List Nat) : ivn (l ++ m) = ivn l ++ ivn m := by simp [ivn]
/-- the registers ahead of m that begin behind j - 1 -/
def beg (m j : Nat) : List Nat := (List.range m).filter fun r => decide (fi r + 1 = (j : Int))
theorem beg_succ (m j : Nat) : beg (m + 1) j = if fi m + 1 = (j : Int) then beg m j ++ [m] else beg m j := by
  unfold beg
  rw [List.range_succ, List.filter_append]
  split
  · rename_i c
    congr 1
    exact List.filter_eq_self.mpr fun r hr => decide_eq_true (by rw [List.mem_singleton.mp hr]; exact c)
  · rename_i c
    have : [m].filter (fun r => decide (fi r + 1 = (j : Int))) = [] := List.filter_eq_nil_iff.mpr fun r hr => by rw [List.mem_singleton.mp hr]; simpa using c
    rw [this, List.append_nil]
theorem beg_none {j : Nat} : ∀ m, m ≤ 2 + j → 0 < j → beg m j = []
  | 0, _, _ => rfl
  | m + 1, h, h0 => by
    rw [beg_succ, beg_none m (by omega) h0, if_neg]
    unfold fi
    split <;> omega
theorem beg_one {j : Nat} (h0 : 0 < j) : ∀ m, 3 + j ≤ m → beg m j = [2 + j]
  | 0, h => by omega
  | m + 1, h => by
    rw [beg_succ]
    by_cases c : m = 2 + j
    · subst c
      rw [beg_none _ (Nat.le_refl _) h0, if_pos (by unfold fi; rw [if_neg (by omega)]; omega)]
      rfl
    · rw [beg_one h0 m (by omega), if_neg (by unfold fi; split <;> omega)]
theorem beg_zero : ∀ m, 3 ≤ m → beg m 0 = [0, 1, 2]
  | 0, h => by omega
  | 1, h => by omega
  | 2, h => by omega
  | m + 3, _ => by
    induction m with
    | zero => rfl
    | succ m ih =>
      rw [show m + 1 + 3 = (m + 3) + 1 by omega, beg_succ, ih (by omega), if_neg (by unfold fi; rw [if_neg (by omega)]; omega)]
/-- the rows so far: what is live ahead of row j -/
def nowR (b : Bk) : Nat → List Nat
  | 0 => []
  | j + 1 => row b j
theorem now_row {b : Bk} (h : WfB b) {j : Nat} (hj : j ≤ b.code.length) : (nowR b j).filter (fun r => decide ((j : Int) - 1 ≤ la b r)) ++ beg (3 + b.code.length) j = row b j := by
  cases j with
  | zero => rw [row_zero h, beg_zero _ (by omega)]; rfl
  | succ j =>
    rw [row_succ h hj, beg_one (by omega) _ (by omega)]
    have : ((j + 1 : Nat) : Int) - 1 = (j : Int) := by omega
    rw [this]
    show _ ++ [2 + (j + 1)] = _
    rw [show 2 + (j + 1) = 3 + j by omega]
    rfl
/-- a sorted arrangement of a sorted list without repeats is that list -/
theorem arr_eq {l : List Nat} (hl : l.Pairwise (· < ·)) {ns : List Int} (hp : ns.Perm (ivn l)) (hs : ns.Pairwise (· ≤ ·)) : ns = ivn l := by
  refine hp.eq_of_pairwise (le := (· ≤ ·)) (fun a b _ _ h1 h2 => Int.le_antisymm h1 h2) hs ?_
  unfold ivn
  rw [List.pairwise_map]
  exact hl.imp fun {a b} h => by omega
theorem filter_take {α : Type} (p : α → Bool) {l : List α} {t : Nat} {x : α} (h : l[t]? = some x) : (l.take (t + 1)).filter p = if p x = true then (l.take t).filter p ++ [x] else (l.take t).filter p := by
  rw [List.take_add_one, h, List.filter_append]
  show _ ++ List.filter p [x] = _
  by_cases c : p x = true
  · rw [if_pos c, List.filter_cons_of_pos c]; rfl
  · rw [if_neg c, List.filter_cons_of_neg c, List.filter_nil, List.append_nil]
def rowsI (b : Bk) (m : Nat) : List (List Int) := (List.range m).map fun j => ivn (row b j)
theorem rowsI_succ (b : Bk) (m : Nat) : rowsI b (m + 1) = rowsI b m ++ [ivn (row b m)] := by simp [rowsI, List.range_succ]
/-- the list B of the lists bs 0 .. bs n -/
structure LstsAt (H : Hp) (B : Addr) (bs : Nat → Addr) (n : Nat) (c : Nat → List Int) : Prop where
  lst : H B = some (.lst ((List.range n).map fun j => V.ref (bs j)))
  itm : ∀ j, j < n → H (bs j) = some (.lst (iv (c j)))
  ne : ∀ j, j < n → bs j ≠ B
  inj : ∀ i j, i < j → j < n → bs i ≠ bs j
theorem LstsAt.same {H H' : Hp} {B : Addr} {bs : Nat → Addr} {n : Nat} {c : Nat → List Int} (h : LstsAt H B bs n c) (s : Same H H') : LstsAt H' B bs n c := ⟨s _ _ h.lst, fun j hj => s _ _ (h.itm j hj), h.ne, h.inj⟩
theorem LstsAt.push {H : Hp} {B : Addr} {bs : Nat → Addr} {n : Nat} {c c' : Nat → List Int} (h : LstsAt H B bs n c) {j : Nat} {x : Int} (hj : j < n) (e : ∀ i, i < n → c' i = if i = j then c j ++ [x] else c i) : LstsAt (upd H (bs j) (.lst (iv (c j) ++ [.int x]))) B bs n c' := by
  refine ⟨by rw [upd_ne (h.ne j hj).symm]; exact h.lst, fun i hi => ?_, h.ne, h.inj⟩
  rw [e i hi]
  by_cases d : i = j
  · rw [if_pos d, d, upd_same]; simp [iv]
  · have : bs i ≠ bs j := by
      rcases Nat.lt_or_ge i j with l | l
      · exact h.inj i j l hj
      · exact (h.inj j i (by omega) hi).symm
    rw [if_neg d, upd_ne this]
    exact h.itm i hi
section
variable {P : Program} {w : World} {K : PySem.W.Frag} {mg : Str → Option Value} {base : Heap} {a : Ad}
def spLive (K : PySem.W.Frag) : Sp := fun vs H Q _ => ∃ (nm : Str) (b : Bk) (v : V), vs = [v] ∧ BlkAt [] H nm b v ∧ WfB b ∧
  ∀ (H' : Hp) (q : Addr) (ws : List Addr), Same H H' → H q = none → H' q = some (.lst (ws.map V.ref)) → VecsAt K H' ws (rowsI b (b.code.length + 1)) → Q (.ref q) H'
theorem ok_live (T : Txt w K mg a) : FnOk P w K mg base CX0 4 a.live.1 a.live.2 ["block"] (spLive K) := by
  refine T.live.F.ok sc_live (fun vs H Q E h => ?_) (fun cdv A outer s H vs Q E hr h => ?_)
  · obtain ⟨_, _, _, rfl, _⟩ := h
    rfl
  obtain ⟨nm, b, v, rfl, hB, wf, q⟩ := h
  obtain ⟨t, cp, rp, pv_, nv, vs, rfl, ht, hP, hN, hcp, hins, hrp, n1, n2, n3⟩ := id hB
  have nd := sc_live.nd
  have hu := hu_of hr
  have G_spans_of := ok_spans_of (P := P) (w := w) (base := base) T
  have vl := hins.len
  have n37 := wf.len
  refine ⟨_, (pss_cons (ps_set (i := 1) nd rfl (Or.inr rfl) (pe_call G_spans_of (hr.mono (by omega)) rfl T.spans_of.g T.spans_of.F.kp T.spans_of.b .nil pass0 (pa_cons (pv 0) pa_nil)))
  (pss_cons (ps_setLc (i := 3) (own := [("_", 2)]) (g := gName 2) (tt := tYes) rfl nd rfl rfl (sw_true rfl rfl rfl (by decide +kernel)) (pi_range1 rfl T.range (pa_cons (pe_op op_add (pe_callB call_len_seq (by rfl) T.len PySem.boot_len (pa_cons (pe_ix ix_tup (pv 0) pe_int (fun _ _ => rfl)) pa_nil)) pe_int) pa_nil)) (blkOk_by (N := ["block", "spans", "_", "beginning", "number", "first", "rows", "now", "index", "new"]) (sc := defScope s_live) (by decide +kernel)) (fun _ _ _ _ _ => (pg_name (i := 2) nd rfl (Or.inl rfl))) (fun _ _ _ _ _ => pts_nil) (fun _ _ _ _ _ => (pe_lst pa_nil)))
  (pss_cons (ps_for PassesOwn.never rfl (pi_items (HE.pe_frz (pv 1))) (pg_tup rfl (pgs_cons (pg_name (i := 4) nd rfl (Or.inl rfl)) (pgs_cons (pg_tup rfl (pgs_cons (pg_name (i := 5) nd rfl (Or.inl rfl)) (pgs_cons (pg_name (i := 2) nd rfl (Or.inl rfl)) pgs_nil))) pgs_nil))) (pss_one (ps_expr (pe_bm PySem.F.plainAttrs_list PySem.F.slot_list_append PySem.F.type_list_append mt_append (pe_ix ix_list (pv 3) (pe_op op_add (pv 5) pe_int) (fun _ _ => rfl)) (pa_cons (pv 4) pa_nil)))))
  (pss_cons (ps_set (i := 6) nd rfl (Or.inl rfl) (pe_lst pa_nil))
  (pss_cons (ps_set (i := 7) nd rfl (Or.inl rfl) (pe_lst pa_nil))
  (pss_cons (ps_for PassesOwn.never rfl (HE.pi_enumK (by rfl) T.enumerate (pa_cons (pv 3) pa_nil) (pk_cons (pe_un un_neg pe_int) pk_nil)) (pg_tup rfl (pgs_cons (pg_name (i := 8) nd rfl (Or.inr rfl)) (pgs_cons (pg_name (i := 9) nd rfl (Or.inl rfl)) pgs_nil))) (pss_cons (ps_set (i := 7) nd rfl (Or.inl rfl) (pe_callB cr_sorted (by rfl) T.sorted (by decide +kernel) (pa_cons (pe_op op_cat (pe_lc (own := [("number", 4)]) (g := gName 4) rfl nd (pi_list (pv 7)) (blkOk_by (N := ["block", "spans", "_", "beginning", "number", "first", "rows", "now", "index", "new"]) (sc := defScope s_live) (by decide +kernel)) (fun _ _ _ _ _ => (pg_name (i := 4) nd rfl (Or.inl rfl))) (fun _ _ _ _ _ => (pts_one (pt_cmpR op_ge (pe_ix (ix_tupK (K := K) rfl) (pe_dget hu (pv 1) (pv 4) (fun _ _ => rfl)) pe_int (fun _ _ => rfl)) (pv 8) (nomark _)))) (fun _ _ _ _ _ => (pv 4))) (pv 9)) pa_nil)))
  (pss_one (ps_expr (pe_bm PySem.F.plainAttrs_list PySem.F.slot_list_append PySem.F.type_list_append mt_append (pv 6) (pa_cons (pv 7) pa_nil))))))
  (pss_one (ps_ret (pv 6))))))))), ?_⟩
  refine ⟨_, rfl, nm, b, _, rfl, hB, wf, fun H1 S ts s1 nS hS hsp => ?_⟩
  refine ⟨_, rfl, t, _, _, _, rfl, rfl, .inl (.inl (s1 _ _ ht)), atI_nat (j := 4) rfl, cp, _, rfl, .inl (SqL.of (s1 _ _ hcp)), _, _, rfl, rfl, _, rfl, by omega, by omega, fun B nB => lc_it (walk_range (lo := 0) (n := ((vs.length : Int) + 1).toNat)) (fun i H2 => ∃ bs : Nat → Addr, Same H1 H2 ∧ (∀ j, j < i → H1 (bs j) = none) ∧ LstsAt H2 B bs i (fun _ => [])) ⟨fun _ => 0, same_new nB _, fun j hj => absurd hj (by omega), upd_same, fun j hj => absurd hj (by omega), fun j hj => absurd hj (by omega), fun _ j _ hj => absurd hj (by omega)⟩ (fun _ _ _ _ => trivial) ?_ ?_⟩
  · rintro i y Hx H2 hi ⟨bs, sm, hbn, hb⟩ ⟨rfl, rfl⟩
    refine ⟨rfl, (by show 0 ≤ sizeLine; decide), fun l nl => ?_⟩
    have s3 := same_new nl (.lst [])
    have h3 := hb.same s3
    have nlB : l ≠ B := fun z => by rw [z, hb.lst] at nl; cases nl
    refine ⟨_, h3.lst, by rw [List.length_map, List.length_range]; exact small1000 (by omega), fun j => if j = i then l else bs j, same_upd (sm.trans s3) nB, fun j hj => ?_, ?_, fun j hj => ?_, fun j hj => ?_, fun i' j hij hj => ?_⟩
    · show H1 (if j = i then l else bs j) = none
      by_cases c : j = i
      · rw [if_pos c]; exact some_free0 sm nl
      · rw [if_neg c]; exact hbn j (by omega)
    · rw [upd_same, List.range_succ, List.map_append]
      have e1 : (List.range i).map (fun j => V.ref (if j = i then l else bs j)) = (List.range i).map fun j => V.ref (bs j) := List.map_congr_left fun j hj => by rw [if_neg (by have := List.mem_range.mp hj; omega)]
      rw [e1]
      show _ = some (HO.lst (_ ++ [V.ref (if i = i then l else bs i)]))
      rw [if_pos rfl]
    · show upd _ B _ (if j = i then l else bs j) = _
      by_cases c : j = i
      · rw [if_pos c, upd_ne nlB]; exact upd_same
      · rw [if_neg c, upd_ne (hb.ne j (by omega))]; exact h3.itm j (by omega)
    · show (if j = i then l else bs j) ≠ B
      by_cases c : j = i
      · rw [if_pos c]; exact nlB
      · rw [if_neg c]; exact hb.ne j (by omega)
    · show (if i' = i then l else bs i') ≠ (if j = i then l else bs j)
      rw [if_neg (by omega)]
      by_cases c : j = i
      · rw [if_pos c]
        exact ne_of_none (hb.itm i' (by omega)) nl
      · rw [if_neg c]; exact hb.inj i' j hij (by omega)
  rintro H2 ⟨bs, s2, hbn, hb⟩
  have en : ((vs.length : Int) + 1).toNat = b.code.length + 1 := by omega
  rw [en] at hb hbn
  have hb0 : ∀ j, j < b.code.length + 1 → H (bs j) = none := fun j hj => some_free0 s1 (hbn j hj)
  have B0 : H1 B = none := nB
  have s02 := s1.trans s2
  have hS2 := s2 _ _ hS
  -- the registers where they begin
  refine ⟨_, rfl, S, _, rfl, hS2, fun od => ⟨S, od, _, rfl, upd_same, ?_⟩⟩
  obtain ⟨H3, e3⟩ : ∃ H3, upd H2 S (.frz od (.dK (dl (3 + b.code.length) fun r => .ref (ts r)))) = H3 := ⟨_, rfl⟩
  rw [e3]
  have hS3 : H3 S = some (.frz od (.dK (dl (3 + b.code.length) fun r => .ref (ts r)))) := by rw [← e3]; exact upd_same
  have k23 : But S H2 H3 := fun z o n e => by rw [← e3, upd_ne n]; exact e
  have s03 : Same H H3 := fun z o e => k23 z o (ne_of_none e nS) (s02 _ _ e)
  have nSz : ∀ {z : Addr} {o : HO}, H2 z = some o → (∀ kvs, o ≠ .dK kvs) → z ≠ S := fun {z o} e n m => by rw [m, hS2] at e; exact n _ (Option.some.inj e).symm
  have hb3 : LstsAt H3 B bs (b.code.length + 1) (fun j => ivn (beg 0 j)) := ⟨k23 _ _ (nSz hb.lst nofun) hb.lst, fun j hj => k23 _ _ (nSz (hb.itm j hj) nofun) (hb.itm j hj), hb.ne, hb.inj⟩
  have hsp3 : ∀ r, r < 3 + b.code.length → H3 (ts r) = some (.tup [.int (fi r), .int (la b r)]) := fun r hr => by
    have e := s2 _ _ (hsp r hr)
    exact k23 _ _ (nSz e nofun) e
  clear e3
  refine for_it walk_items (fun i σ H4 => ∃ v2 v4 v5 : Option V, σ = [some (.ref t), some (.ref S), v2, some (.ref B), v4, v5, none, none, none, none] ∧ Same H H4 ∧ H4 S = some (.frz od (.dK (dl (3 + b.code.length) fun r => .ref (ts r)))) ∧ LstsAt H4 B bs (b.code.length + 1) (fun j => ivn (beg i j)) ∧ ∀ r, r < 3 + b.code.length → H4 (ts r) = some (.tup [.int (fi r), .int (la b r)])) ⟨none, none, none, rfl, s03, hS3, hb3, hsp3⟩ (fun i σ H4 _ h => by obtain ⟨_, _, _, _, _, h4, _⟩ := h; exact h4) ?_ ?_
  · rintro i y σ H4 H4' hi ⟨v2, v4, v5, rfl, sm, hS4, hb4, hsp4⟩ ⟨te, e1, e2, rfl, nte, rfl, ee1, ee2⟩
    rw [dl_len] at hi
    obtain rfl := dl_key hi ee1
    obtain rfl := dl_val hi ee2
    have s5 := same_new nte (.tup [V.int (i : Int), V.ref (ts i)])
    have hb5 := hb4.same s5
    obtain ⟨j, ej, hj⟩ : ∃ j : Nat, fi i + 1 = (j : Int) ∧ j < b.code.length + 1 := ⟨(fi i + 1).toNat, by have := fi_ge i; omega, by have := fi_ge i; have := (fi_le (r := i) (j := b.code.length)).mpr (by omega); omega⟩
    have bl : (beg i j).length ≤ 40 := Nat.le_trans (List.length_filter_le _ _) (by rw [List.length_range]; omega)
    refine ⟨te, _, rfl, .inl (.inl upd_same), rfl, _, _, rfl, _, _, rfl, ts i, _, rfl, .inl (.inl (s5 _ _ (hsp4 i hi))), rfl, _, _, rfl, _, _, rfl, rfl, rfl, ?_⟩
    refine ⟨_, rfl, _, rfl, _, _, rfl, rfl, B, _, _, V.ref (bs j), rfl, rfl, SqL.of hb5.lst, by rw [ej]; exact atI_nat (by rw [List.getElem?_map, List.getElem?_range hj]; rfl), .inl ⟨rfl, _, SqL.of (hb5.itm j hj)⟩, _, rfl, bs j, _, _, rfl, rfl, hb5.itm j hj, by rw [iv_len, ivn_len]; exact small1000 (by omega), ?_⟩
    refine ⟨_, _, _, rfl, same_upd (sm.trans s5) (hb0 j hj), ?_, hb5.push hj fun i' hi' => ?_, fun r hr => ?_⟩
    · have e := s5 _ _ hS4
      rw [upd_ne (fun z => by have e2 := hb5.itm j hj; rw [← z, e] at e2; cases e2)]
      exact e
    · rw [beg_succ]
      by_cases c : i' = j
      · rw [if_pos c, c, if_pos ej, ivn_app]; rfl
      · rw [if_neg c, if_neg (by omega)]
    · have e := s5 _ _ (hsp4 r hr)
      rw [upd_ne (fun z => by have e2 := hb5.itm j hj; rw [← z, e] at e2; cases e2)]
      exact e
  rintro σ H4 ⟨v2, v4, v5, rfl, sm4, hS4, hb4, hsp4⟩
  rw [dl_len] at hb4
  -- the rows
  refine ⟨(by show 0 ≤ sizeLine; decide), fun R nR => ?_⟩
  refine ⟨(by show 0 ≤ sizeLine; decide), fun W0 nW0 => ?_⟩
  have s5 := (same_new nR (.lst [])).trans (same_new nW0 (.lst []))
  have R0 : H R = none := some_free0 sm4 nR
  have nRW : R ≠ W0 := ne_of_none (upd_same (H := H4) (a := R) (o := .lst [])) nW0
  have hR5 := same_new nW0 (.lst []) _ _ (upd_same (H := H4) (a := R) (o := .lst []))
  refine ⟨_, rfl, _, rfl, B, _, -1, rfl, rfl, SqL.of (s5 _ _ hb4.lst), by decide, by decide, for_it (HE.walk_e (K := K) (a := B) (xs := (List.range (b.code.length + 1)).map fun j => V.ref (bs j))) (fun i σ H6 => ∃ (v8 v9 : Option V) (W : Addr) (ws : List Addr), σ = [some (.ref t), some (.ref S), v2, some (.ref B), v4, v5, some (.ref R), some (.ref W), v8, v9] ∧ Same H4 H6 ∧ H6 W = some (.lst (iv (ivn (nowR b i)))) ∧ H6 R = some (.lst (ws.map V.ref)) ∧ VecsAt K H6 ws (rowsI b i) ∧ R ∉ ws ∧ W ≠ R) ⟨none, none, W0, [], rfl, s5, upd_same, hR5, trivial, List.not_mem_nil, nRW.symm⟩ (fun i σ H6 _ h => by obtain ⟨_, _, _, _, _, s6, _⟩ := h; exact SqL.of (s6 _ _ hb4.lst)) ?_ ?_⟩
  · rintro i y σ H6 H6' hi ⟨v8, v9, W, ws, rfl, s6, hW, hR, hV, nRw, nWR⟩ ⟨te, e1, e2, rfl, nte, rfl, ee1, ee2⟩
    rw [List.length_map, List.length_range] at hi
    obtain rfl : V.int (-1 + (i : Nat)) = e1 := Option.some.inj ee1
    have ee2' : ((List.range (b.code.length + 1)).map fun j => V.ref (bs j))[i]? = some e2 := ee2
    rw [List.getElem?_map, List.getElem?_range hi] at ee2'
    obtain rfl : V.ref (bs i) = e2 := Option.some.inj ee2'
    have s7 := same_new nte (.tup [V.int (-1 + (i : Nat)), V.ref (bs i)])
    have s47 := s6.trans s7
    have ei : (-1 : Int) + (i : Nat) = (i : Int) - 1 := by omega
    refine ⟨te, _, rfl, .inl (.inl upd_same), rfl, _, _, rfl, _, _, rfl, rfl, ?_⟩
    refine ⟨_, rfl, W, rfl, ⟨_, SqL.of (s7 _ _ hW)⟩, fun D nD => lc_it (walk_list (K := K) (a := W) (xs := iv (ivn (nowR b i)))) (fun u H8 => Same (upd H6 te (.tup [V.int (-1 + (i : Nat)), V.ref (bs i)])) H8 ∧ H8 D = some (.lst (iv (ivn (((nowR b i).take u).filter fun r => decide ((i : Int) - 1 ≤ la b r)))))) ⟨same_new nD _, upd_same⟩ (fun u H8 _ h => SqL.of (h.1 _ _ (s7 _ _ hW))) ?_ ?_⟩
    · rintro u z Hx H8 hu8 ⟨s8, hD⟩ ⟨rfl, hz⟩
      obtain ⟨z0, hz0, rfl⟩ := iv_get hz
      have hz1 : ((nowR b i)[u]?).map (fun (r : Nat) => (r : Int)) = some z0 := by unfold ivn at hz0; rw [List.getElem?_map] at hz0; exact hz0
      obtain ⟨r, er, rfl⟩ : ∃ r : Nat, (nowR b i)[u]? = some r ∧ z0 = (r : Int) := by
        cases e : (nowR b i)[u]? with
        | none => rw [e] at hz1; cases hz1
        | some r => rw [e] at hz1; exact ⟨r, rfl, (Option.some.inj hz1).symm⟩
      have hr3 : r < 3 + b.code.length := by
        cases i with
        | zero => simp [nowR] at er
        | succ i =>
          have := (row_mem.mp (List.mem_of_getElem? er)).1
          omega
      have s48 := s47.trans s8
      rw [filter_take _ er]
      refine ⟨rfl, _, rfl, _, rfl, S, _, rfl, .inl ⟨_, .inl (r : Int), .inr ⟨od, s48 _ _ hS4⟩, rfl, (dl_get hr3).symm⟩, ts r, _, _, _, rfl, rfl, .inl (.inl (s48 _ _ (hsp4 r hr3))), atI_nat (j := 1) rfl, _, rfl, _, _, rfl, rfl, _, rfl, ?_⟩
      by_cases c : (i : Int) - 1 ≤ la b r
      · refine ifT (decide_eq_true (by omega)) ?_
        rw [if_pos (decide_eq_true c)]
        have ll : (((nowR b i).take u).filter fun r => decide ((i : Int) - 1 ≤ la b r)).length ≤ 40 := by
          refine Nat.le_trans (List.length_filter_le _ _) (Nat.le_trans (List.length_take_le' _ _) ?_)
          cases i with
          | zero => simp [nowR]
          | succ i => exact Nat.le_trans (row_len i) (by omega)
        refine ⟨_, rfl, _, hD, by rw [iv_len, ivn_len]; exact small1000 (by omega), same_upd s8 nD, ?_⟩
        rw [upd_same, ivn_app]; simp [iv, ivn]
      · refine ifF (decide_eq_false (by omega)) ?_
        rw [if_neg (by simpa using c)]
        exact ⟨s8, hD⟩
    rintro H8 ⟨s8, hD⟩
    rw [iv_len, ivn_len, List.take_length] at hD
    have s48 := s47.trans s8
    have ln : (nowR b i).length ≤ 40 := by
      cases i with
      | zero => simp [nowR]
      | succ i => exact Nat.le_trans (row_len i) (by omega)
    have lb : (beg (3 + b.code.length) i).length ≤ 40 := Nat.le_trans (List.length_filter_le _ _) (by rw [List.length_range]; omega)
    have lf : ((nowR b i).filter fun r => decide ((i : Int) - 1 ≤ la b r)).length ≤ 40 := Nat.le_trans (List.length_filter_le _ _) ln
    have lr : (row b i).length ≤ 40 := Nat.le_trans (row_len i) (by omega)
    refine ⟨_, rfl, D, bs i, _, _, rfl, rfl, hD, s48 _ _ (hb4.itm i hi), by rw [iv_len, iv_len, ivn_len, ivn_len]; exact Nat.le_trans (show _ ≤ 1000 by omega) (by decide), fun p np => ?_⟩
    have s9 := same_new np (.lst (iv (ivn ((nowR b i).filter fun r => decide ((i : Int) - 1 ≤ la b r))) ++ iv (ivn (beg (3 + b.code.length) i))))
    have er : iv (ivn ((nowR b i).filter fun r => decide ((i : Int) - 1 ≤ la b r))) ++ iv (ivn (beg (3 + b.code.length) i)) = (ivn (row b i)).map V.int := by
      rw [← now_row wf (j := i) (by omega), ivn_app]
      simp [iv]
    refine ⟨p, ivn (row b i), rfl, SqL.of (by rw [upd_same, er]), by rw [ivn_len]; omega, fun ns' Q' perm srt nQ => ?_⟩
    rw [arr_eq (row_sorted b i) perm srt]
    have s10 := same_new nQ (.lst ((ivn (row b i)).map V.int))
    have s68 := ((s7.trans s8).trans s9).trans s10
    have nQR : Q' ≠ R := fun z => by
      have := ((s7.trans s8).trans s9) _ _ hR
      rw [← z, nQ] at this; cases this
    refine ⟨_, rfl, .inl ⟨rfl, _, SqL.of (s68 _ _ hR)⟩, _, rfl, R, _, _, rfl, rfl, s68 _ _ hR, by rw [List.length_map, hV.len]; simp [rowsI]; exact small1000 (by omega), ?_⟩
    refine ⟨_, _, Q', ws ++ [Q'], rfl, fun z o e => ?_, by rw [upd_ne nQR]; exact upd_same, by rw [upd_same, List.map_append]; rfl, ?_, ?_, nQR⟩
    · rw [upd_ne (ne_of_none e nR)]
      exact s68 _ _ (s6 _ _ e)
    · rw [rowsI_succ]
      refine VecsAt.upd (VecsAt.snoc (K := K) (x := ivn (row b i)) upd_same (hV.same s68)) ?_
      intro m
      rcases List.mem_append.mp m with m | m
      · exact nRw m
      · exact nQR (List.mem_singleton.mp m).symm
    · intro m
      rcases List.mem_append.mp m with m | m
      · exact nRw m
      · exact nQR (List.mem_singleton.mp m).symm
  rintro σ H6 ⟨v8, v9, W, ws, rfl, s6, hW, hR, hV, nRw, nWR⟩
  rw [List.length_map, List.length_range] at hV
  exact ⟨_, rfl, q H6 R ws (sm4.trans s6) R0 hR hV⟩
end
end K15

namespace K15
open PySem PySem.Spec PyProof.Rows L2
def one (c : Prop) [Decidable c] : Int := if c then 1 else 0
/-- what changes at i, by the registers ahead of m -/
def chg (b : Bk) : Nat → Nat → Int
  | 0, _ => 0
  | m + 1, i => chg b m i + one (fi m + 1 = (i : Int)) - one (la b m + 2 = (i : Int))
/-- how many are live, by the registers ahead of m, ahead of i -/
def cnt (b : Bk) : Nat → Nat → Int
  | 0, _ => 0
  | m + 1, i => cnt b m i + one (fi m + 1 < (i : Int)) - one (la b m + 2 < (i : Int))
theorem cnt_zero {b : Bk} (h : WfB b) : ∀ m, m ≤ 3 + b.code.length → cnt b m 0 = 0
  | 0, _ => rfl
  | m + 1, hm => by
    have e1 := fi_ge m
    have e2 := la_ge h (r := m) (by omega)
    unfold cnt
    rw [cnt_zero h m (by omega)]
    unfold one
    rw [if_neg (by omega), if_neg (by omega)]
    rfl
theorem cnt_succ (b : Bk) (i : Nat) : ∀ m, cnt b m (i + 1) = cnt b m i + chg b m i
  | 0 => rfl
  | m + 1 => by
    unfold cnt chg
    rw [cnt_succ b i m]
    have e1 : one (fi m + 1 < ((i + 1 : Nat) : Int)) = one (fi m + 1 < (i : Int)) + one (fi m + 1 = (i : Int)) := by unfold one; split <;> split <;> (try split) <;> omega
    have e2 : one (la b m + 2 < ((i + 1 : Nat) : Int)) = one (la b m + 2 < (i : Int)) + one (la b m + 2 = (i : Int)) := by unfold one; split <;> split <;> (try split) <;> omega
    rw [e1, e2]
    omega
theorem cnt_end {b : Bk} : ∀ m, m ≤ 3 + b.code.length → cnt b m (b.code.length + 2) = 0
  | 0, _ => rfl
  | m + 1, hm => by
    have e1 := (fi_le (r := m) (j := b.code.length)).mpr (by omega)
    have e2 := la_le (b := b) (r := m) (by omega)
    unfold cnt
    rw [cnt_end m (by omega)]
    unfold one
    rw [if_pos (by omega), if_pos (by omega)]
    rfl
def sel (b : Bk) (m j : Nat) : List Nat := (List.range m).filter fun r => decide (fi r ≤ (j : Int) - 1 ∧ (j : Int) - 1 ≤ la b r)
theorem sel_succ (b : Bk) (m j : Nat) : sel b (m + 1) j = if fi m ≤ (j : Int) - 1 ∧ (j : Int) - 1 ≤ la b m then sel b m j ++ [m] else sel b m j := by
  unfold sel
  rw [List.range_succ, List.filter_append]
  split
  · rename_i c
    congr 1
    exact List.filter_eq_self.mpr fun r hr => decide_eq_true (by rw [List.mem_singleton.mp hr]; exact c)
  · rename_i c
    have : [m].filter (fun r => decide (fi r ≤ (j : Int) - 1 ∧ (j : Int) - 1 ≤ la b r)) = [] := List.filter_eq_nil_iff.mpr fun r hr => by rw [List.mem_singleton.mp hr, decide_eq_true_iff]; exact c
    rw [this, List.append_nil]
theorem sel_row (b : Bk) (j : Nat) : ∀ k, sel b (3 + j + k) j = row b j
  | 0 => by
    unfold sel row
    refine List.filter_congr fun r hr => decide_eq_decide.mpr ?_
    have := List.mem_range.mp hr
    have := (fi_le (r := r) (j := j)).mpr (by omega)
    exact ⟨fun z => z.2, fun z => ⟨this, z⟩⟩
  | k + 1 => by
    rw [show 3 + j + (k + 1) = (3 + j + k) + 1 by omega, sel_succ, if_neg, sel_row b j k]
    intro z
    have := fi_le.mp z.1
    omega
theorem cnt_sel {b : Bk} (h : WfB b) (j : Nat) : ∀ m, m ≤ 3 + b.code.length → cnt b m (j + 1) = ((sel b m j).length : Int)
  | 0, _ => rfl
  | m + 1, hm => by
    have e1 := la_ge h (r := m) (by omega)
    unfold cnt
    rw [cnt_sel h j m (by omega), sel_succ]
    unfold one
    split
    · split
      · rw [if_neg (by omega)]; omega
      · rw [if_pos (by omega), List.length_append]; simp
    · split
      · omega
      · rw [if_neg (by omega)]; omega
theorem cnt_row {b : Bk} (h : WfB b) {j : Nat} (hj : j ≤ b.code.length) : cnt b (3 + b.code.length) (j + 1) = ((row b j).length : Int) := by
  rw [cnt_sel h j _ (Nat.le_refl _), ← sel_row b j (b.code.length - j), show 3 + j + (b.code.length - j) = 3 + b.code.length by omega]
theorem set_range {m j : Nat} {f f' : Nat → Int} {v : Int} (h : ∀ i, i < m → f' i = if i = j then v else f i) : (iv ((List.range m).map f)).set j (.int v) = iv ((List.range m).map f') := by
  refine List.ext_getElem (by simp [iv]) fun i h1 h2 => ?_
  have hi : i < m := by simpa [iv] using h2
  rw [List.getElem_set]
  by_cases c : j = i
  · subst c
    simp [iv, h j hi]
  · rw [if_neg c]
    simp [iv, h i hi, if_neg (fun z : i = j => c z.symm)]
/-- the greatest row, the first of its size -/
def Best (b : Bk) (k : Nat) (M I : Int) : Prop := (k = 0 ∧ M = 0 ∧ I = -1) ∨ ∃ j, j < k ∧ j ≤ b.code.length ∧ M = ((row b j).length : Int) ∧ I = (j : Int) - 1 ∧ (∀ i, i < k → i ≤ b.code.length → ((row b i).length : Int) ≤ M) ∧ ∀ i, i < j → ((row b i).length : Int) < M
theorem Best.step {b : Bk} (h : WfB b) {k : Nat} {M I : Int} (hk : k < b.code.length + 2) (g : Best b k M I) : (M < cnt b (3 + b.code.length) (k + 1) → Best b (k + 1) (cnt b (3 + b.code.length) (k + 1)) ((k : Int) - 1)) ∧ (¬ M < cnt b (3 + b.code.length) (k + 1) → Best b (k + 1) M I) := by
  have pos : k = 0 → (3 : Int) = cnt b (3 + b.code.length) (k + 1) := fun z => by
    subst z
    rw [cnt_row h (Nat.zero_le _), row_zero h]
    rfl
  constructor
  · intro c
    by_cases kn : k ≤ b.code.length
    · rw [cnt_row h kn] at c ⊢
      refine .inr ⟨k, by omega, kn, rfl, rfl, fun i hi hn => ?_, fun i hi => ?_⟩
      · by_cases d : i = k
        · rw [d]; exact Int.le_refl _
        · rcases g with ⟨k0, _⟩ | ⟨j, _, _, _, _, up, _⟩
          · omega
          · have := up i (by omega) hn; omega
      · rcases g with ⟨k0, _⟩ | ⟨j, _, _, _, _, up, _⟩
        · omega
        · have := up i (by omega) (by omega); omega
    · obtain rfl : k = b.code.length + 1 := by omega
      rw [show b.code.length + 1 + 1 = b.code.length + 2 by omega, cnt_end _ (Nat.le_refl _)] at c
      rcases g with ⟨k0, _⟩ | ⟨j, _, _, eM, _⟩
      · omega
      · omega
  · intro c
    rcases g with ⟨k0, rfl, _⟩ | ⟨j, h1, h2, h3, h4, up, lo⟩
    · have := pos k0; omega
    · refine .inr ⟨j, by omega, h2, h3, h4, fun i hi hn => ?_, lo⟩
      by_cases d : i = k
      · subst d
        rw [cnt_row h hn] at c
        omega
      · exact up i (by omega) hn
section
variable {P : Program} {w : World} {K : PySem.W.Frag} {mg : Str → Option Value} {base : Heap} {a : Ad}
def spFew : Sp := fun vs H Q _ => ∃ (nm : Str) (b : Bk) (v : V), vs = [v] ∧ BlkAt [] H nm b v ∧ WfB b ∧
  ∀ (H' : Hp) (p : Addr) (M I : Int), Same H H' → H' p = some (.tup [.int M, .int I]) → Best b (b.code.length + 2) M I → Q (.ref p) H'
theorem ok_fewest (T : Txt w K mg a) : FnOk P w K mg base CX0 4 a.fewest.1 a.fewest.2 ["block"] spFew := by
  refine T.fewest.F.ok sc_fewest (fun vs H Q E h => ?_) (fun cdv A outer s H vs Q E hr h => ?_)
  · obtain ⟨_, _, _, rfl, _⟩ := h
    rfl
  obtain ⟨nm, b, v, rfl, hB, wf, q⟩ := h
  obtain ⟨t, cp, rp, pv_, nv, vs, rfl, ht, hP, hN, hcp, hins, hrp, n1, n2, n3⟩ := id hB
  have nd := sc_fewest.nd
  have hu := hu_of hr
  have G_spans_of := ok_spans_of (P := P) (w := w) (base := base) T
  have vl := hins.len
  have n37 := wf.len
  refine ⟨_, (pss_cons (ps_set (i := 1) nd rfl (Or.inl rfl) (pe_op op_rep (pe_lst (pa_cons pe_int pa_nil)) (pe_op op_add (pe_callB call_len_seq (by rfl) T.len PySem.boot_len (pa_cons (pe_ix ix_tup (pv 0) pe_int (fun _ _ => rfl)) pa_nil)) pe_int)))
  (pss_cons (ps_for PassesOwn.never rfl (pi_values (HE.pe_frz (pe_call G_spans_of (hr.mono (by omega)) rfl T.spans_of.g T.spans_of.F.kp T.spans_of.b .nil pass0 (pa_cons (pv 0) pa_nil)))) (pg_tup rfl (pgs_cons (pg_name (i := 2) nd rfl (Or.inl rfl)) (pgs_cons (pg_name (i := 3) nd rfl (Or.inl rfl)) pgs_nil))) (pss_cons (HAL.ps_laug (pv 1) (pe_op op_add (pv 2) pe_int) pe_int ip_add)
  (pss_one (HAL.ps_laug (pv 1) (pe_op op_add (pv 3) pe_int) pe_int ip_sub))))
  (pss_cons (ps_set (i := 4) nd rfl (Or.inl rfl) pe_int)
  (pss_cons (ps_set (i := 5) nd rfl (Or.inl rfl) (pe_tup (pa_cons pe_int (pa_cons (pe_un un_neg pe_int) pa_nil))))
  (pss_cons (ps_for PassesOwn.never rfl (HE.pi_enumK (by rfl) T.enumerate (pa_cons (pv 1) pa_nil) (pk_cons (pe_un un_neg pe_int) pk_nil)) (pg_tup rfl (pgs_cons (pg_name (i := 6) nd rfl (Or.inl rfl)) (pgs_cons (pg_name (i := 7) nd rfl (Or.inl rfl)) pgs_nil))) (pss_cons (ps_aug (i := 4) nd rfl (Or.inl rfl) (pv 7) ip_add)
  (pss_one (ps_if (pt_cmpR op_gt (pv 4) (pe_ix ix_tup (pv 5) pe_int (fun _ _ => rfl)) (nomark _)) (pss_one (ps_set (i := 5) nd rfl (Or.inl rfl) (pe_tup (pa_cons (pv 4) (pa_cons (pv 6) pa_nil))))) pss_nil))))
  (pss_one (ps_ret (pv 5)))))))), ?_⟩
  refine ⟨(by show 1 ≤ sizeLine; decide), fun z0 nz0 => ?_⟩
  have s1 := same_new nz0 (.lst [V.int 0])
  refine ⟨_, rfl, t, _, _, _, rfl, rfl, .inl (.inl (s1 _ _ ht)), atI_nat (j := 4) rfl, cp, _, rfl, .inl (SqL.of (s1 _ _ hcp)), _, _, rfl, rfl, z0, _, _, rfl, rfl, upd_same, by omega, by omega, by rw [List.length_singleton]; exact Nat.le_trans (show _ ≤ 1000 by omega) (by decide), fun C nC => ?_⟩
  have ez : (List.replicate ((vs.length : Int) + 2).toNat [V.int 0]).flatten = iv ((List.range (b.code.length + 2)).map (chg b 0)) := by
    rw [show ((vs.length : Int) + 2).toNat = b.code.length + 2 by omega]
    generalize b.code.length + 2 = m
    induction m with
    | zero => rfl
    | succ m ih =>
      rw [List.replicate_succ', List.flatten_append, ih, List.range_succ]
      simp [iv, chg]
  rw [ez]
  have s2 := s1.trans (same_new nC (.lst (iv ((List.range (b.code.length + 2)).map (chg b 0)))))
  have C0 : H C = none := some_free0 s1 nC
  have hC2 := upd_same (H := upd H z0 (.lst [V.int 0])) (a := C) (o := .lst (iv ((List.range (b.code.length + 2)).map (chg b 0))))
  refine ⟨_, rfl, nm, b, _, rfl, hB.fr (Fr.of s2), wf, fun H3 S ts s3 nS hS hsp => ⟨S, _, rfl, hS, fun od => ⟨S, od, _, rfl, upd_same, ?_⟩⟩⟩
  have S0 : H S = none := some_free0 s2 nS
  have s03 := s2.trans s3
  have nCS : C ≠ S := ne_of_none hC2 nS
  refine for_it walk_values (fun i σ H4 => ∃ v2 v3 : Option V, σ = [some (.ref t), some (.ref C), v2, v3, none, none, none, none] ∧ Same H H4 ∧ H4 S = some (.frz od (.dK (dl (3 + b.code.length) fun r => .ref (ts r)))) ∧ H4 C = some (.lst (iv ((List.range (b.code.length + 2)).map (chg b i)))) ∧ ∀ r, r < 3 + b.code.length → H4 (ts r) = some (.tup [.int (fi r), .int (la b r)])) ⟨none, none, rfl, same_upd s03 S0, upd_same, by rw [upd_ne nCS]; exact s3 _ _ hC2, fun r hr => by rw [upd_ne (fun z => by have e := hsp r hr; rw [z, hS] at e; cases e)]; exact hsp r hr⟩ (fun i σ H4 _ h => by obtain ⟨_, _, _, _, h4, _⟩ := h; exact h4) ?_ ?_
  · rintro i y σ Hx H4 hi ⟨v2, v3, rfl, sm, hS4, hC4, hsp4⟩ ⟨rfl, k, hk⟩
    rw [dl_len] at hi
    rw [dl_at hi] at hk
    cases hk
    have e1 := fi_ge i
    have e2 := (fi_le (r := i) (j := b.code.length)).mpr (by omega)
    have e3 := la_ge wf hi
    have e4 := la_le (b := b) hi
    obtain ⟨j1, ej1, hj1⟩ : ∃ j : Nat, fi i + 1 = (j : Int) ∧ j < b.code.length + 2 := ⟨(fi i + 1).toNat, by omega, by omega⟩
    obtain ⟨j2, ej2, hj2⟩ : ∃ j : Nat, la b i + 2 = (j : Int) ∧ j < b.code.length + 2 := ⟨(la b i + 2).toNat, by omega, by omega⟩
    have gt : ∀ {f : Nat → Int} {j : Nat}, j < b.code.length + 2 → (iv ((List.range (b.code.length + 2)).map f))[j]? = some (V.int (f j)) := fun {f j} hj => by simp [iv, List.getElem?_range hj]
    have ix : ∀ {f : Nat → Int} {j : Nat}, j < b.code.length + 2 → ixN (iv ((List.range (b.code.length + 2)).map f)).length ((j : Nat) : Int) = some j := fun {f j} hj => by
      unfold ixN
      rw [if_pos (by omega), if_pos (by rw [iv_len, List.length_map, List.length_range]; omega)]
      rfl
    refine ⟨ts i, _, rfl, .inl (.inl (hsp4 i hi)), rfl, _, _, rfl, _, _, rfl, rfl, ?_⟩
    refine ⟨_, rfl, _, rfl, _, _, rfl, rfl, C, _, j1, _, rfl, congrArg V.int ej1, SqL.of hC4, gt hj1, _, _, rfl, rfl, C, _, _, j1, rfl, rfl, hC4, by rw [ej1]; exact ix hj1, ?_⟩
    rw [set_range (f' := fun u => if u = j1 then chg b i j1 + 1 else chg b i u) (fun u _ => rfl)]
    have hC5 := upd_same (H := H4) (a := C) (o := .lst (iv ((List.range (b.code.length + 2)).map fun u => if u = j1 then chg b i j1 + 1 else chg b i u)))
    refine ⟨_, rfl, _, rfl, _, _, rfl, rfl, C, _, j2, _, rfl, congrArg V.int ej2, SqL.of hC5, gt hj2, _, _, rfl, rfl, C, _, _, j2, rfl, rfl, hC5, by rw [ej2]; exact ix hj2, ?_⟩
    rw [set_range (f' := chg b (i + 1)) (fun u _ => ?_), upd_upd]
    · have nSC : S ≠ C := nCS.symm
      refine ⟨_, _, rfl, same_upd sm C0, by rw [upd_ne nSC]; exact hS4, upd_same, fun r hr => ?_⟩
      have e := hsp4 r hr
      rw [upd_ne (fun z => by rw [z, hC4] at e; cases e)]
      exact e
    · show chg b i u + one (fi i + 1 = (u : Int)) - one (la b i + 2 = (u : Int)) = _
      unfold one
      rw [ej1, ej2]
      by_cases c1 : u = j1
      · by_cases c2 : u = j2
        · rw [if_pos (by omega), if_pos (by omega), if_pos c2, if_pos (by omega), ← c1]
        · rw [if_pos (by omega), if_neg (by omega), if_neg c2, if_pos c1, c1]; first | omega | (dsimp only; omega)
      · by_cases c2 : u = j2
        · rw [if_neg (by omega), if_pos (by omega), if_pos c2, if_neg (by omega), ← c2]; first | omega | (dsimp only; omega)
        · rw [if_neg (by omega), if_neg (by omega), if_neg c2, if_neg c1]; first | omega | (dsimp only; omega)
  rintro σ H4 ⟨v2, v3, rfl, sm4, hS4, hC4, hsp4⟩
  rw [dl_len] at hC4
  refine ⟨_, rfl, (by show 2 ≤ sizeLine; decide), fun bt nbt => ?_⟩
  have s5 := same_new nbt (.tup [V.int 0, V.int (-1)])
  have C0' : H C = none := C0
  refine ⟨_, rfl, _, rfl, C, _, -1, rfl, rfl, SqL.of (s5 _ _ hC4), by decide, by decide, for_it (HE.walk_e (K := K) (a := C) (xs := iv ((List.range (b.code.length + 2)).map (chg b (3 + b.code.length))))) (fun i σ H6 => ∃ (v6 v7 : Option V) (p : Addr) (M I : Int), σ = [some (.ref t), some (.ref C), v2, v3, some (.int (cnt b (3 + b.code.length) i)), some (.ref p), v6, v7] ∧ Same H4 H6 ∧ H6 p = some (.tup [.int M, .int I]) ∧ Best b i M I) ⟨none, none, bt, 0, -1, by rw [cnt_zero wf _ (Nat.le_refl _)]; rfl, s5, upd_same, .inl ⟨rfl, rfl, rfl⟩⟩ (fun i σ H6 _ h => by obtain ⟨_, _, _, _, _, _, s6, _⟩ := h; exact SqL.of (s6 _ _ hC4)) ?_ ?_⟩
  · rintro i y σ H6 H6' hi ⟨v6, v7, p, M, I, rfl, s6, hp, hbest⟩ ⟨te, e1, e2, rfl, nte, rfl, ee1, ee2⟩
    rw [iv_len, List.length_map, List.length_range] at hi
    obtain rfl : V.int (-1 + (i : Nat)) = e1 := Option.some.inj ee1
    have ee2' : (iv ((List.range (b.code.length + 2)).map (chg b (3 + b.code.length))))[i]? = some e2 := ee2
    have e2x : (iv ((List.range (b.code.length + 2)).map (chg b (3 + b.code.length))))[i]? = some (V.int (chg b (3 + b.code.length) i)) := by simp [iv, List.getElem?_range hi]
    rw [e2x] at ee2'
    obtain rfl := Option.some.inj ee2'
    have s7 := same_new nte (.tup [V.int (-1 + (i : Nat)), V.int (chg b (3 + b.code.length) i)])
    have ei : (-1 : Int) + (i : Nat) = (i : Int) - 1 := by omega
    obtain ⟨g1, g2⟩ := hbest.step wf hi
    have ec := cnt_succ b i (3 + b.code.length)
    refine ⟨te, _, rfl, .inl (.inl upd_same), rfl, _, _, rfl, _, _, rfl, rfl, ?_⟩
    refine ⟨_, rfl, _, rfl, _, _, rfl, rfl, ?_⟩
    refine ⟨_, rfl, _, rfl, p, _, _, _, rfl, rfl, .inl (.inl (s7 _ _ hp)), atI_nat (j := 0) rfl, _, _, rfl, rfl, _, rfl, ?_⟩
    by_cases c : M < cnt b (3 + b.code.length) (i + 1)
    · refine ifT (decide_eq_true (by first | omega | (dsimp only; omega))) ?_
      refine ⟨_, rfl, _, rfl, (by show 2 ≤ sizeLine; decide), fun p2 np2 => ?_⟩
      have s8 := same_new np2 (.tup [V.int (cnt b (3 + b.code.length) i + chg b (3 + b.code.length) i), V.int (-1 + (i : Nat))])
      exact ⟨_, _, p2, _, _, by rw [ec]; rfl, (s6.trans s7).trans s8, upd_same, by rw [ei]; have z := g1 c; rw [ec] at z; exact z⟩
    · refine ifF (decide_eq_false (by first | omega | (dsimp only; omega))) ?_
      exact ⟨_, _, p, M, I, by rw [ec]; rfl, s6.trans s7, s7 _ _ hp, g2 c⟩
  rintro σ H6 ⟨v6, v7, p, M, I, rfl, s6, hp, hbest⟩
  rw [iv_len, List.length_map, List.length_range] at hbest
  exact ⟨_, rfl, q H6 p M I (sm4.trans s6) hp hbest⟩
end
end K15

namespace K15
open PySem PySem.Spec PyProof.Rows L2
/-- a plan: the slot of each register, if it has one -/
def PlanAt (H : Hp) (b : Bk) (p : Addr) (sl : Nat → Option Int) : Prop := ∃ kvs : List (L2.Key × V), H p = some (.dK kvs) ∧ kvs.length ≤ 60 ∧ ∀ r : Nat, r < 3 + b.code.length → valV kvs (.inl (r : Int)) = (sl r).map V.int
theorem PlanAt.same {H H' : Hp} {b : Bk} {p : Addr} {sl : Nat → Option Int} (h : PlanAt H b p sl) (s : Same H H') : PlanAt H' b p sl := by
  obtain ⟨kvs, h1, h2⟩ := h
  exact ⟨kvs, s _ _ h1, h2⟩
def RightP (b : Bk) (sl : Nat → Option Int) : Prop := (∀ r, r < 3 + b.code.length → ∃ s, sl r = some s) ∧ ∀ q r s, q < r → r < 3 + b.code.length → sl q = some s → sl r = some s → la b q < fi r
def FitRow (sl : Nat → Option Int) (l : List Nat) : Prop := (∀ r ∈ l, ∃ s, sl r = some s) ∧ l.Pairwise fun q r => sl q ≠ sl r
theorem pw_at {R : Nat → Nat → Prop} : ∀ {l : List Nat}, l.Pairwise (· < ·) → l.Pairwise R → ∀ {x y : Nat}, x ∈ l → y ∈ l → x < y → R x y
  | [], _, _, _, _, h, _, _ => absurd h List.not_mem_nil
  | z :: l, s, r, x, y, hx, hy, c => by
    obtain ⟨s1, s2⟩ := List.pairwise_cons.mp s
    obtain ⟨r1, r2⟩ := List.pairwise_cons.mp r
    rcases List.mem_cons.mp hx with ex | mx
    · rcases List.mem_cons.mp hy with ey | my
      · omega
      · rw [ex]; exact r1 y my
    · rcases List.mem_cons.mp hy with ey | my
      · have := s1 x mx; omega
      · exact pw_at s2 r2 mx my c
theorem fits_iff {b : Bk} (h : WfB b) (sl : Nat → Option Int) : (∀ j, j ≤ b.code.length → FitRow sl (row b j)) ↔ RightP b sl := by
  have at_ : ∀ r, r < 3 + b.code.length → ∃ j, j ≤ b.code.length ∧ fi r = (j : Int) - 1 ∧ r ∈ row b j := fun r hr => by
    have e1 := fi_ge r
    have e2 := (fi_le (r := r) (j := b.code.length)).mpr hr
    have e3 := la_ge h hr
    refine ⟨(fi r + 1).toNat, by omega, by omega, row_mem.mpr ⟨fi_le.mp (by omega), by omega⟩⟩
  constructor
  · intro g
    refine ⟨fun r hr => ?_, fun q r s hq hr e1 e2 => ?_⟩
    · obtain ⟨j, hj, _, m⟩ := at_ r hr
      exact (g j hj).1 r m
    · obtain ⟨j, hj, ej, m⟩ := at_ r hr
      refine Int.not_le.mp fun c => ?_
      have mq : q ∈ row b j := row_mem.mpr ⟨by have := (row_mem.mp m).1; omega, by omega⟩
      exact pw_at (row_sorted b j) (g j hj).2 mq m hq (e1.trans e2.symm)
  · rintro ⟨g1, g2⟩ j hj
    refine ⟨fun r hr => g1 r (by have := (row_mem.mp hr).1; omega), ?_⟩
    refine (row_sorted b j).imp_of_mem fun {q r} hq hr z e => ?_
    have mr := row_mem.mp hr
    obtain ⟨s, es⟩ := g1 r (by omega)
    have := g2 q r s z (by omega) (e.trans es) es
    have := (row_mem.mp hq).2
    have := fi_le.mpr mr.1
    omega
/-- the latest register of each slot, by those ahead of i -/
def LastsOk (b : Bk) (sl : Nat → Option Int) (i : Nat) (kvl : List (L2.Key × V)) : Prop := ∀ s : Int, (valV kvl (.inl s) = none ∧ ∀ q, q < i → sl q ≠ some s) ∨ ∃ q, q < i ∧ sl q = some s ∧ valV kvl (.inl s) = some (.int (la b q)) ∧ ∀ q', q' < i → sl q' = some s → q' ≤ q
/-- right so far -/
def RightI (b : Bk) (sl : Nat → Option Int) (i : Nat) : Prop := (∀ r, r < i → ∃ s, sl r = some s) ∧ ∀ q r s, q < r → r < i → sl q = some s → sl r = some s → la b q < fi r
theorem RightI.next {b : Bk} (h : WfB b) {sl : Nat → Option Int} {i : Nat} {kvl : List (L2.Key × V)} {s : Int} (hi : i < 3 + b.code.length) (g : RightI b sl i) (l : LastsOk b sl i kvl) (e : sl i = some s) (c : ∀ L, valV kvl (.inl s) = some (.int L) → L < fi i) : RightI b sl (i + 1) := by
  refine ⟨fun r hr => ?_, fun q r t hq hr e1 e2 => ?_⟩
  · by_cases d : r = i
    · exact ⟨s, d ▸ e⟩
    · exact g.1 r (by omega)
  · by_cases d : r = i
    · subst d
      obtain rfl : s = t := by rw [e] at e2; exact Option.some.inj e2
      rcases l s with ⟨_, no⟩ | ⟨p, hp, ep, ev, up⟩
      · exact absurd e1 (no q hq)
      · have c1 := c _ ev
        have := up q hq e1
        by_cases d2 : q = p
        · rw [d2]; exact c1
        · have c3 := g.2 q p s (by omega) hp e1 ep
          have := la_ge h (r := p) (by omega)
          omega
    · exact g.2 q r t hq (by omega) e1 e2
theorem LastsOk.put {b : Bk} {sl : Nat → Option Int} {i : Nat} {kvl : List (L2.Key × V)} {s : Int} (l : LastsOk b sl i kvl) (e : sl i = some s) : LastsOk b sl (i + 1) (putK kvl (.inl s) (.int (la b i))) := fun t => by
  by_cases c : t = s
  · subst c
    refine .inr ⟨i, Nat.lt_succ_self i, e, by rw [valV_put, if_pos rfl], fun q hq _ => by omega⟩
  · have ev : valV (putK kvl (.inl s) (.int (la b i))) (.inl t) = valV kvl (.inl t) := by rw [valV_put, if_neg (fun z => c (Sum.inl.inj z))]
    rw [ev]
    rcases l t with ⟨h1, no⟩ | ⟨p, hp, ep, h1, up⟩
    · refine .inl ⟨h1, fun q hq eq => ?_⟩
      by_cases d : q = i
      · rw [d, e] at eq; exact c (Option.some.inj eq).symm
      · exact no q (by omega) eq
    · refine .inr ⟨p, by omega, ep, h1, fun q hq eq => ?_⟩
      by_cases d : q = i
      · rw [d, e] at eq; exact absurd (Option.some.inj eq).symm c
      · exact up q (by omega) eq
theorem RightI.whole {b : Bk} {sl : Nat → Option Int} : RightI b sl (3 + b.code.length) ↔ RightP b sl := Iff.rfl
section
variable {P : Program} {w : World} {K : PySem.W.Frag} {mg : Str → Option Value} {base : Heap} {a : Ad}
def spRight : Sp := fun vs H Q _ => ∃ (nm : Str) (b : Bk) (v : V) (p : Addr) (sl : Nat → Option Int), vs = [v, .ref p] ∧ BlkAt [] H nm b v ∧ WfB b ∧ PlanAt H b p sl ∧
  ∀ (H' : Hp) (r : Bool), Same H H' → (r = true ↔ RightP b sl) → Q (.bl r) H'
theorem ok_plan_right (T : Txt w K mg a) : FnOk P w K mg base CX0 4 a.plan_right.1 a.plan_right.2 ["block", "slots"] spRight := by
  refine T.plan_right.F.ok sc_plan_right (fun vs H Q E h => ?_) (fun cdv A outer s H vs Q E hr h => ?_)
  · obtain ⟨_, _, _, _, _, rfl, _⟩ := h
    rfl
  obtain ⟨nm, b, v, p, sl, rfl, hB, wf, hpl, q⟩ := h
  have nd := sc_plan_right.nd
  have hu := hu_of hr
  have G_spans_of := ok_spans_of (P := P) (w := w) (base := base) T
  have n37 := wf.len
  refine ⟨_, (pss_cons (ps_set (i := 2) nd rfl (Or.inl rfl) pe_dnewK)
  (pss_cons (ps_for PassesOwn.never rfl (pi_items (HE.pe_frz (pe_call G_spans_of (hr.mono (by omega)) rfl T.spans_of.g T.spans_of.F.kp T.spans_of.b .nil pass0 (pa_cons (pv 0) pa_nil)))) (pg_tup rfl (pgs_cons (pg_name (i := 3) nd rfl (Or.inl rfl)) (pgs_cons (pg_tup rfl (pgs_cons (pg_name (i := 4) nd rfl (Or.inl rfl)) (pgs_cons (pg_name (i := 5) nd rfl (Or.inl rfl)) pgs_nil))) pgs_nil))) (pss_cons (ps_if (pt_cmp (pc_dnotin hu (pv 3) (pv 1))) (pss_one (ps_ret pe_bl)) pss_nil)
  (pss_cons (ps_set (i := 6) nd rfl (Or.inl rfl) (pe_dget hu (pv 1) (pv 3) (fun _ _ => rfl)))
  (pss_cons (ps_if (PW.pt (pw_and (pt_cmp (pc_din hu (pv 6) (pv 2))) (pw_and1 (pt_cmpR op_ge (pe_dget hu (pv 2) (pv 6) (fun _ _ => rfl)) (pv 4) (nomark _))))) (pss_one (ps_ret pe_bl)) pss_nil)
  (pss_one (ps_dput hu (pv 2) (pv 6) (pv 5) rfl))))))
  (pss_one (ps_ret pe_bl)))), ?_⟩
  refine fun L nL => ?_
  have s1 := same_new nL (.dK [])
  refine ⟨_, rfl, nm, b, _, rfl, hB.fr (Fr.of s1), wf, fun H2 S ts s2 nS hS hsp => ⟨S, _, rfl, hS, fun od => ⟨S, od, _, rfl, upd_same, ?_⟩⟩⟩
  have S0 : H S = none := some_free0 s1 nS
  have s02 := s1.trans s2
  have hL2 := s2 _ _ (upd_same (H := H) (a := L) (o := .dK []))
  have nLS : L ≠ S := ne_of_none (upd_same (H := H) (a := L) (o := .dK [])) nS
  refine for_it walk_items (fun i σ H4 => ∃ (v3 v4 v5 v6 : Option V) (kvl : List (L2.Key × V)), σ = [some v, some (.ref p), some (.ref L), v3, v4, v5, v6] ∧ Same H H4 ∧ H4 S = some (.frz od (.dK (dl (3 + b.code.length) fun r => .ref (ts r)))) ∧ H4 L = some (.dK kvl) ∧ kvl.length ≤ i ∧ LastsOk b sl i kvl ∧ RightI b sl i ∧ ∀ r, r < 3 + b.code.length → H4 (ts r) = some (.tup [.int (fi r), .int (la b r)])) ⟨none, none, none, none, [], rfl, same_upd s02 S0, upd_same, by rw [upd_ne nLS]; exact hL2, Nat.le_refl _, fun s => .inl ⟨rfl, fun q hq => absurd hq (by omega)⟩, ⟨fun r hr => absurd hr (by omega), fun q r s _ hr => absurd hr (by omega)⟩, fun r hr => by rw [upd_ne (fun z => by have e := hsp r hr; rw [z, hS] at e; cases e)]; exact hsp r hr⟩ (fun i σ H4 _ h => by obtain ⟨_, _, _, _, _, _, _, h4, _⟩ := h; exact h4) ?_ ?_
  · rintro i y σ H4 H4' hi ⟨v3, v4, v5, v6, kvl, rfl, sm, hS4, hL4, kl, lo, ro, hsp4⟩ ⟨te, e1, e2, rfl, nte, rfl, ee1, ee2⟩
    rw [dl_len] at hi
    obtain rfl := dl_key hi ee1
    obtain rfl := dl_val hi ee2
    have s5 := same_new nte (.tup [V.int (i : Int), V.ref (ts i)])
    have s05 := sm.trans s5
    obtain ⟨kvs, hk, kvl60, hsl⟩ := hpl.same s05
    have hsi := hsl i hi
    have L0 : H L = none := nL
    refine ⟨te, _, rfl, .inl (.inl upd_same), rfl, _, _, rfl, _, _, rfl, ts i, _, rfl, .inl (.inl (s5 _ _ (hsp4 i hi))), rfl, _, _, rfl, _, _, rfl, rfl, rfl, ?_⟩
    refine ⟨_, rfl, _, rfl, p, _, rfl, DGet.k (k := Sum.inl (i : Int)) hk, _, rfl, ?_⟩
    cases esl : sl i with
    | none =>
      rw [esl] at hsi
      refine ifT (by rw [hsi]; rfl) ?_
      exact q _ false s05 ⟨fun z => (by cases z), fun z => by obtain ⟨s, es⟩ := z.1 i hi; rw [esl] at es; cases es⟩
    | some s0 =>
      rw [esl] at hsi
      refine ifF (by rw [hsi]; rfl) ?_
      refine ⟨_, rfl, _, rfl, p, .int s0, rfl, by have z := DGet.k (k := Sum.inl (i : Int)) hk; rw [hsi] at z; exact z, ?_⟩
      have hL5 := s5 _ _ hL4
      have fin : (∀ Lv, valV kvl (.inl s0) = some (.int Lv) → Lv < fi i) → ∃ (v3 v4 v5 v6 : Option V) (kvl' : List (L2.Key × V)), [some v, some (.ref p), some (.ref L), some (.int (i : Int)), some (.int (fi i)), some (.int (la b i)), some (.int s0)] = [some v, some (.ref p), some (.ref L), v3, v4, v5, v6] ∧ Same H (upd (upd H4 te (.tup [V.int (i : Int), V.ref (ts i)])) L (.dK (putK kvl (.inl s0) (.int (la b i))))) ∧ (upd (upd H4 te (.tup [V.int (i : Int), V.ref (ts i)])) L (.dK (putK kvl (.inl s0) (.int (la b i))))) S = some (.frz od (.dK (dl (3 + b.code.length) fun r => .ref (ts r)))) ∧ (upd (upd H4 te (.tup [V.int (i : Int), V.ref (ts i)])) L (.dK (putK kvl (.inl s0) (.int (la b i))))) L = some (.dK kvl') ∧ kvl'.length ≤ i + 1 ∧ LastsOk b sl (i + 1) kvl' ∧ RightI b sl (i + 1) ∧ ∀ r, r < 3 + b.code.length → (upd (upd H4 te (.tup [V.int (i : Int), V.ref (ts i)])) L (.dK (putK kvl (.inl s0) (.int (la b i))))) (ts r) = some (.tup [.int (fi r), .int (la b r)]) := fun c => by
        refine ⟨_, _, _, _, _, rfl, same_upd s05 L0, ?_, upd_same, ?_, lo.put esl, ro.next wf hi lo esl c, fun r hr => ?_⟩
        · rw [upd_ne nLS.symm]; exact s5 _ _ hS4
        · have := length_putK kvl (.inl s0) (.int (la b i)); omega
        · have e := s5 _ _ (hsp4 r hr)
          rw [upd_ne (fun z => by rw [z, hL5] at e; cases e)]
          exact e
      have put : DPut (upd H4 te (.tup [V.int (i : Int), V.ref (ts i)])) L (.int s0) (.int (la b i)) _ := DPut.k (k := Sum.inl s0) hL5 (Nat.lt_of_le_of_lt kl (small1000 (by omega)))
      refine ⟨_, rfl, _, rfl, L, _, rfl, DGet.k (k := Sum.inl s0) hL5, _, rfl, ?_⟩
      rcases lo s0 with ⟨hn, _⟩ | ⟨q0, hq0, eq0, hv0, _⟩
      · refine ifF (by rw [hn]; rfl) ?_
        exact ⟨_, rfl, _, rfl, _, rfl, L, _, rfl, put, fin fun Lv z => by rw [hn] at z; cases z⟩
      · refine ifT (by rw [hv0]; rfl) ?_
        refine ⟨_, rfl, _, rfl, L, _, rfl, by have z := DGet.k (k := Sum.inl s0) hL5; rw [hv0] at z; exact z, _, rfl, _, _, rfl, rfl, _, rfl, ?_⟩
        by_cases c : fi i ≤ la b q0
        · refine ifT (decide_eq_true c) ?_
          exact q _ false s05 ⟨fun z => (by cases z), fun z => by have := z.2 q0 i s0 hq0 hi eq0 esl; omega⟩
        · refine ifF (decide_eq_false c) ?_
          exact ⟨_, rfl, _, rfl, _, rfl, L, _, rfl, put, fin fun Lv z => by rw [hv0] at z; obtain rfl := V.int.inj (Option.some.inj z); omega⟩
  rintro σ H4 ⟨v3, v4, v5, v6, kvl, rfl, sm, hS4, hL4, kl, lo, ro, hsp4⟩
  rw [dl_len] at ro
  exact q H4 true sm ⟨fun _ => ro, fun _ => rfl⟩
end
end K15

namespace K15
open PySem PySem.Spec PyProof.Rows L2
theorem VecsAt.geta {K : PySem.W.Frag} {H : Hp} {z : Addr} : ∀ {as : List Addr} {xss : List (List Int)} {i : Nat}, VecsAt K H as xss → as[i]? = some z → ∃ x, xss[i]? = some x ∧ H z = some (.lst (iv x))
  | b :: _, y :: _, 0, ⟨h, _⟩, e => ⟨y, rfl, by obtain rfl : b = z := Option.some.inj e; exact h⟩
  | _ :: _, _ :: _, i + 1, ⟨_, h⟩, e => h.geta (i := i) e
  | [], _, i, _, e => by simp at e
  | _ :: _, [], _, h, _ => h.elim
theorem VecsAt.last {K : PySem.W.Frag} {H : Hp} {z : Addr} {x : List Int} : ∀ {as : List Addr} {xss : List (List Int)}, VecsAt K H (as ++ [z]) (xss ++ [x]) → H z = some (.lst (iv x))
  | [], [], h => h.1
  | _ :: as, _ :: xss, h => VecsAt.last (as := as) (xss := xss) h.2
  | [], [_], h => h.2.elim
  | [], _ :: _ :: _, h => h.2.elim
  | [_], [], h => h.2.elim
  | _ :: _ :: _, [], h => h.2.elim
section
variable {P : Program} {w : World} {K : PySem.W.Frag} {mg : Str → Option Value} {base : Heap} {a : Ad}
theorem in_ints {s : Int} {ns : List Int} : inV (.int s) (iv ns) = true ↔ s ∈ ns := by
  unfold inV iv
  rw [List.any_map, List.any_eq_true]
  constructor
  · rintro ⟨x, hx, e⟩
    have : x = s := by simpa [eqV] using e
    rw [← this]; exact hx
  · intro h
    exact ⟨s, h, by simp [eqV]⟩
def spFits (K : PySem.W.Frag) : Sp := fun vs H Q _ => ∃ (b : Bk) (rp p : Addr) (ws : List Addr) (sl : Nat → Option Int), vs = [.ref rp, .ref p] ∧ WfB b ∧ H rp = some (.lst (ws.map V.ref)) ∧ VecsAt K H ws (rowsI b (b.code.length + 1)) ∧ PlanAt H b p sl ∧
  ∀ (H' : Hp) (r : Bool), Same H H' → (r = true ↔ RightP b sl) → Q (.bl r) H'
theorem ok_law_fits (T : Txt w K mg a) : FnOk P w K mg base CX0 1 a.law_fits.1 a.law_fits.2 ["rows", "slots"] (spFits K) := by
  refine T.law_fits.F.ok sc_law_fits (fun vs H Q E h => ?_) (fun cdv A outer s H vs Q E hr h => ?_)
  · obtain ⟨_, _, _, _, _, rfl, _⟩ := h
    rfl
  obtain ⟨b, rp, p, ws, sl, rfl, wf, hrp, hV, hpl, q⟩ := h
  have nd := sc_law_fits.nd
  have hu := hu_of hr
  have n37 := wf.len
  have no : ∀ j, j ≤ b.code.length → ¬ FitRow sl (row b j) → ¬ RightP b sl := fun j hj nf z => nf ((fits_iff wf sl).mpr z j hj)
  refine ⟨_, (pss_cons (ps_for PassesOwn.never rfl (pi_list (pv 0)) (pg_name (i := 2) nd rfl (Or.inl rfl)) (pss_cons (ps_set (i := 3) nd rfl (Or.inl rfl) (pe_lst pa_nil))
  (pss_one (ps_for PassesOwn.never rfl (pi_list (pv 2)) (pg_name (i := 4) nd rfl (Or.inl rfl)) (pss_cons (ps_if (PW.pt (pw_or (pt_cmp (pc_dnotin hu (pv 4) (pv 1))) (pw_or1 (pt_cmpR op_in_seq (pe_dget hu (pv 1) (pv 4) (fun _ _ => rfl)) (pv 3) (by rfl))))) (pss_one (ps_ret pe_bl)) pss_nil)
  (pss_one (ps_expr (pe_bm PySem.F.plainAttrs_list PySem.F.slot_list_append PySem.F.type_list_append mt_append (pv 3) (pa_cons (pe_dget hu (pv 1) (pv 4) (fun _ _ => rfl)) pa_nil)))))))))
  (pss_one (ps_ret pe_bl))), ?_⟩
  refine ⟨_, rfl, rp, rfl, ⟨_, SqL.of hrp⟩, for_list (K := K) (a := rp) (xs := ws.map V.ref) (fun j σ H1 => ∃ v2 v3 v4 : Option V, σ = [some (.ref rp), some (.ref p), v2, v3, v4] ∧ Same H H1 ∧ ∀ i, i < j → FitRow sl (row b i)) ⟨none, none, none, rfl, fun _ _ e => e, fun i hi => absurd hi (by omega)⟩ (fun j σ H1 _ h => by obtain ⟨_, _, _, _, sm, _⟩ := h; exact SqL.of (sm _ _ hrp)) ?_ ?_⟩
  · rintro j y σ H1 hj ⟨v2, v3, v4, rfl, sm, fit⟩
    obtain ⟨w', ew, rfl⟩ : ∃ w', ws[j]? = some w' ∧ y = .ref w' := by
      rw [List.getElem?_map] at hj
      cases e : ws[j]? with
      | none => rw [e] at hj; cases hj
      | some u => rw [e] at hj; exact ⟨u, rfl, (Option.some.inj hj).symm⟩
    obtain ⟨x, ex, hw⟩ := hV.geta ew
    have jl : j < b.code.length + 1 := by
      have := (List.getElem?_eq_some_iff.mp ex).1
      simpa [rowsI] using this
    obtain rfl : ivn (row b j) = x := by
      unfold rowsI at ex
      rw [List.getElem?_map, List.getElem?_range jl] at ex
      exact Option.some.inj ex
    refine ⟨(by show 0 ≤ sizeLine; decide), fun tk ntk => ?_⟩
    have tk0 : H tk = none := some_free0 sm ntk
    have s2 := sm.trans (same_new ntk (.lst []))
    have lr : (row b j).length ≤ 40 := Nat.le_trans (row_len j) (by omega)
    refine ⟨_, rfl, w', rfl, ⟨_, SqL.of (s2 _ _ hw)⟩, for_list (K := K) (a := w') (xs := iv (ivn (row b j))) (fun t σ H3 => ∃ v4 : Option V, σ = [some (.ref rp), some (.ref p), some (.ref w'), some (.ref tk), v4] ∧ Same H H3 ∧ H3 tk = some (.lst (iv (((row b j).take t).map fun r => (sl r).getD 0))) ∧ FitRow sl ((row b j).take t)) ⟨v4, rfl, s2, upd_same, by rw [List.take_zero]; exact ⟨fun r hr => absurd hr List.not_mem_nil, .nil⟩⟩ (fun t σ H3 _ h => by obtain ⟨_, _, s3, _⟩ := h; exact SqL.of (s3 _ _ hw)) ?_ ?_⟩
    · rintro t z σ H3 hz ⟨v4, rfl, s3, htk, ft⟩
      obtain ⟨z0, hz0, rfl⟩ := iv_get hz
      have hz1 : ((row b j)[t]?).map (fun (r : Nat) => (r : Int)) = some z0 := by unfold ivn at hz0; rw [List.getElem?_map] at hz0; exact hz0
      obtain ⟨r, er, rfl⟩ : ∃ r : Nat, (row b j)[t]? = some r ∧ z0 = (r : Int) := by
        cases e : (row b j)[t]? with
        | none => rw [e] at hz1; cases hz1
        | some r => rw [e] at hz1; exact ⟨r, rfl, (Option.some.inj hz1).symm⟩
      have mr := List.mem_of_getElem? er
      have hr3 : r < 3 + b.code.length := by have := (row_mem.mp mr).1; omega
      obtain ⟨kvs, hk, kvl60, hsl⟩ := hpl.same s3
      have hsr := hsl r hr3
      have etk : (row b j).take (t + 1) = (row b j).take t ++ [r] := by rw [List.take_add_one, er]; rfl
      refine ⟨_, rfl, _, rfl, p, _, rfl, DGet.k (k := Sum.inl (r : Int)) hk, _, rfl, ?_⟩
      cases esl : sl r with
      | none =>
        rw [esl] at hsr
        refine ifT (by rw [hsr]; rfl) ?_
        refine q _ false s3 ⟨fun z => (by cases z), fun z => absurd z (no j (by omega) fun f => ?_)⟩
        obtain ⟨s, es⟩ := f.1 r mr
        rw [esl] at es; cases es
      | some s0 =>
        rw [esl] at hsr
        refine ifF (by rw [hsr]; rfl) ?_
        have get : DGet H3 p (.int (r : Int)) (some (.int s0)) := by have z := DGet.k (k := Sum.inl (r : Int)) hk; rw [hsr] at z; exact z
        refine ⟨_, rfl, _, rfl, p, .int s0, rfl, get, _, rfl, tk, _, rfl, .inl (SqL.of htk), rfl, List.all_eq_true.mpr fun u hu' => by obtain ⟨n, _, rfl⟩ := List.mem_map.mp hu'; rfl, _, rfl, ?_⟩
        by_cases c : s0 ∈ ((row b j).take t).map fun r => (sl r).getD 0
        · refine ifT (in_ints.mpr c) ?_
          refine q _ false s3 ⟨fun z => (by cases z), fun z => absurd z (no j (by omega) fun f => ?_)⟩
          obtain ⟨q0, mq, eq0⟩ := List.mem_map.mp c
          obtain ⟨s1, es1⟩ := ft.1 q0 mq
          rw [es1] at eq0
          have pw : (row b j).take (t + 1) ++ (row b j).drop (t + 1) = row b j := List.take_append_drop _ _
          have f2 := f.2
          rw [← pw, etk] at f2
          have f3 := (List.pairwise_append.mp (List.pairwise_append.mp f2).1).2.2 q0 mq r (List.mem_singleton.mpr rfl)
          exact f3 (by rw [es1, esl]; exact congrArg some eq0)
        · refine ifF (by rw [Bool.eq_false_iff]; exact fun z => c (in_ints.mp z)) ?_
          have tl : ((row b j).take t).length ≤ 40 := Nat.le_trans (List.length_take_le' _ _) lr
          refine ⟨_, rfl, .inl ⟨rfl, _, SqL.of htk⟩, _, rfl, _, rfl, p, .int s0, rfl, get, tk, _, _, rfl, rfl, htk, by rw [iv_len, List.length_map]; exact small1000 (by omega), ?_⟩
          refine ⟨_, rfl, same_upd s3 tk0, ?_, ?_⟩
          · rw [upd_same, etk, List.map_append]
            simp [iv, esl]
          · rw [etk]
            refine ⟨fun x hx => ?_, List.pairwise_append.mpr ⟨ft.2, List.pairwise_singleton _ _, fun x hx y hy e => ?_⟩⟩
            · rcases List.mem_append.mp hx with hx | hx
              · exact ft.1 x hx
              · rw [List.mem_singleton.mp hx]; exact ⟨s0, esl⟩
            · rw [List.mem_singleton.mp hy, esl] at e
              exact c (List.mem_map.mpr ⟨x, hx, by rw [e]; rfl⟩)
    · rintro σ H3 ⟨v4, rfl, s3, htk, ft⟩
      rw [iv_len, ivn_len, List.take_length] at ft
      refine ⟨_, _, _, rfl, s3, fun i hi => ?_⟩
      by_cases d : i = j
      · rw [d]; exact ft
      · exact fit i (by omega)
  rintro σ H1 ⟨v2, v3, v4, rfl, sm, fit⟩
  have wl : ws.length = b.code.length + 1 := by rw [hV.len]; simp [rowsI]
  rw [List.length_map, wl] at fit
  exact q H1 true sm ⟨fun _ => (fits_iff wf sl).mp fun j hj => fit j (by omega), fun _ => rfl⟩
end
end K15

namespace K15
open PySem PySem.Spec PyProof.Rows L2
theorem sub_len : ∀ {l m : List Nat}, l.Nodup → (∀ x ∈ l, x ∈ m) → l.length ≤ m.length
  | [], _, _, _ => Nat.zero_le _
  | x :: l, m, nd, h => by
    have nd' := List.nodup_cons.mp nd
    have hm := h x (List.mem_cons_self ..)
    have ih := sub_len (l := l) (m := m.erase x) nd'.2 fun y hy => (List.mem_erase_of_ne (fun z => nd'.1 (by rw [← z]; exact hy))).mpr (h y (List.mem_cons_of_mem _ hy))
    rw [List.length_erase_of_mem hm] at ih
    have := List.length_pos_of_mem hm
    rw [List.length_cons]
    omega
/-- plan's slots so far: sl gives them, m many, es the taken ones, fr the free ones -/
structure PI (b : Bk) (i : Nat) (F : Int) (m : Nat) (sl : Nat → Nat) (es : List HQ.Hi) (fr : List Nat) : Prop where
  ord : HQ.Ord es
  ent : ∀ e ∈ es, ∃ r, r < i ∧ e.x = la b r ∧ e.y = (sl r : Int)
  reg : ∀ r, r < i → (∃ e ∈ es, e.x = la b r ∧ e.y = (sl r : Int)) ∨ la b r < F
  perm : (es.map (·.y) ++ ivn fr).Perm (ivn (List.range m))
  lt : ∀ r, r < i → sl r < m
  all : ∀ s, s < m → ∃ r, r < i ∧ sl r = s
  right : RightI b (fun r => some (sl r : Int)) i
  most : m = 0 ∨ ∃ j, j ≤ b.code.length ∧ m ≤ (row b j).length
theorem PI.start (b : Bk) (F : Int) : PI b 0 F 0 (fun _ => 0) [] [] := ⟨HQ.Ord.nil, fun e he => absurd he List.not_mem_nil, fun r hr => absurd hr (by omega), .refl _, fun r hr => absurd hr (by omega), fun s hs => absurd hs (by omega), ⟨fun r hr => absurd hr (by omega), fun q r s _ hr => absurd hr (by omega)⟩, .inl rfl⟩
theorem PI.mono {b : Bk} {i : Nat} {F F' : Int} {m : Nat} {sl : Nat → Nat} {es : List HQ.Hi} {fr : List Nat} (h : PI b i F m sl es fr) (l : F ≤ F') : PI b i F' m sl es fr :=
  { h with reg := fun r hr => (h.reg r hr).imp id fun z => by omega }
/-- a slot that is taken no longer -/
theorem PI.pop {b : Bk} {i : Nat} {F : Int} {m : Nat} {sl : Nat → Nat} {es es' : List HQ.Hi} {fr : List Nat} {e : HQ.Hi} (h : PI b i F m sl es fr) (p : (e :: es').Perm es) (o : HQ.Ord es') (c : e.x < F) : ∃ s : Nat, e.y = (s : Int) ∧ PI b i F m sl es' (fr ++ [s]) := by
  obtain ⟨r, hr, e1, e2⟩ := h.ent e (p.subset (List.mem_cons_self ..))
  refine ⟨sl r, e2, { h with ord := o, ent := fun f hf => h.ent f (p.subset (List.mem_cons_of_mem _ hf)), reg := fun q hq => ?_, perm := ?_ }⟩
  · rcases h.reg q hq with ⟨f, hf, f1, f2⟩ | z
    · rcases List.mem_cons.mp (p.symm.subset hf) with rfl | hf
      · exact .inr (by omega)
      · exact .inl ⟨f, hf, f1, f2⟩
    · exact .inr z
  · refine List.Perm.trans ?_ h.perm
    rw [ivn_app]
    have p1 : (es'.map (·.y) ++ (ivn fr ++ [(sl r : Int)])).Perm ((sl r : Int) :: (es'.map (·.y) ++ ivn fr)) := by
      rw [← List.append_assoc]
      exact List.perm_append_singleton _ _
    refine List.Perm.trans p1 ?_
    have p2 := (p.map (·.y)).append_right (ivn fr)
    rw [List.map_cons, e2] at p2
    exact p2
theorem ivn_nodup (m : Nat) : (ivn (List.range m)).Nodup := by
  unfold ivn List.Nodup
  rw [List.pairwise_map]
  exact List.nodup_range.imp fun {x y} h z => h (by omega)
theorem PI.nodup {b : Bk} {i : Nat} {F : Int} {m : Nat} {sl : Nat → Nat} {es : List HQ.Hi} {fr : List Nat} (h : PI b i F m sl es fr) : (es.map (·.y) ++ ivn fr).Nodup := h.perm.nodup_iff.mpr (ivn_nodup m)
def slN (sl : Nat → Nat) (i s : Nat) : Nat → Nat := fun r => if r = i then s else sl r
theorem slN_same (sl : Nat → Nat) (i s : Nat) : slN sl i s i = s := if_pos rfl
theorem slN_ne {sl : Nat → Nat} {i s r : Nat} (h : r ≠ i) : slN sl i s r = sl r := if_neg h
theorem add_right {b : Bk} {i s : Nat} {sl : Nat → Nat} (h : RightI b (fun r => some (sl r : Int)) i) (c : ∀ q, q < i → sl q = s → la b q < fi i) : RightI b (fun r => some (slN sl i s r : Int)) (i + 1) := by
  refine ⟨fun r _ => ⟨_, rfl⟩, fun q r t hq hr e1 e2 => ?_⟩
  have e1 := Option.some.inj e1
  have e2 := Option.some.inj e2
  rw [slN_ne (by omega)] at e1
  by_cases d : r = i
  · subst d
    rw [slN_same] at e2
    exact c q hq (by omega)
  · rw [slN_ne d] at e2
    exact h.2 q r t hq (by omega) (congrArg some e1) (congrArg some e2)
/-- a free slot is taken -/
theorem PI.take {b : Bk} {i : Nat} {m : Nat} {sl : Nat → Nat} {es es' : List HQ.Hi} {fr : List Nat} {s : Nat} {e : HQ.Hi} (h : PI b i (fi i) m sl es (fr ++ [s])) (p : es'.Perm (e :: es)) (o : HQ.Ord es') (ex : e.x = la b i) (ey : e.y = (s : Int)) : PI b (i + 1) (fi i) m (slN sl i s) es' fr := by
  have nd := h.nodup
  have sm : s < m := by
    have : (s : Int) ∈ es.map (·.y) ++ ivn (fr ++ [s]) := List.mem_append_right _ (by rw [ivn_app]; exact List.mem_append_right _ (List.mem_singleton.mpr rfl))
    have := h.perm.subset this
    unfold ivn at this
    obtain ⟨r, hr, er⟩ := List.mem_map.mp this
    have := List.mem_range.mp hr
    omega
  refine ⟨o, fun f hf => ?_, fun r hr => ?_, ?_, fun r hr => ?_, fun t ht => ?_, add_right h.right fun q hq eq => ?_, h.most⟩
  · rcases List.mem_cons.mp (p.subset hf) with rfl | hf
    · exact ⟨i, by omega, ex, by rw [slN_same]; exact ey⟩
    · obtain ⟨r, h1, h2, h3⟩ := h.ent f hf
      exact ⟨r, by omega, h2, by rw [slN_ne (by omega)]; exact h3⟩
  · by_cases d : r = i
    · subst d
      exact .inl ⟨e, p.symm.subset (List.mem_cons_self ..), ex, by rw [slN_same]; exact ey⟩
    · rw [slN_ne d]
      rcases h.reg r (by omega) with ⟨f, hf, f1, f2⟩ | z
      · exact .inl ⟨f, p.symm.subset (List.mem_cons_of_mem _ hf), f1, f2⟩
      · exact .inr z
  · refine List.Perm.trans ?_ h.perm
    rw [ivn_app, ← List.append_assoc]
    refine List.Perm.trans ((p.map (·.y)).append_right _) ?_
    rw [List.map_cons, ey]
    exact (List.perm_append_singleton _ _).symm
  · by_cases d : r = i
    · rw [d, slN_same]; exact sm
    · rw [slN_ne d]; exact h.lt r (by omega)
  · obtain ⟨r, hr, er⟩ := h.all t ht
    exact ⟨r, by omega, by rw [slN_ne (by omega)]; exact er⟩
  · rcases h.reg q hq with ⟨f, hf, _, f2⟩ | z
    · have m1 : f.y ∈ es.map (·.y) := List.mem_map.mpr ⟨f, hf, rfl⟩
      have m2 : (s : Int) ∈ ivn (fr ++ [s]) := by rw [ivn_app]; exact List.mem_append_right _ (List.mem_singleton.mpr rfl)
      rw [f2, eq] at m1
      exact absurd rfl ((List.nodup_append.mp nd).2.2 _ m1 _ m2)
    · exact z
/-- a new slot -/
theorem PI.grow {b : Bk} (wf : WfB b) {i : Nat} (hi : i < 3 + b.code.length) {m : Nat} {sl : Nat → Nat} {es es' : List HQ.Hi} {e : HQ.Hi} (h : PI b i (fi i) m sl es []) (c : ∀ f ∈ es, fi i ≤ f.x) (p : es'.Perm (e :: es)) (o : HQ.Ord es') (ex : e.x = la b i) (ey : e.y = (es.length : Int)) : es.length = m ∧ PI b (i + 1) (fi i) (m + 1) (slN sl i es.length) es' [] := by
  have em : es.length = m := by
    have := h.perm.length_eq
    rw [List.length_append, List.length_map, ivn_len, ivn_len, List.length_range] at this
    simpa using this
  have nd := h.nodup
  subst em
  refine ⟨rfl, o, fun f hf => ?_, fun r hr => ?_, ?_, fun r hr => ?_, fun t ht => ?_, add_right h.right fun q hq eq => ?_, .inr ?_⟩
  · rcases List.mem_cons.mp (p.subset hf) with rfl | hf
    · exact ⟨i, by omega, ex, by rw [slN_same]; exact ey⟩
    · obtain ⟨r, h1, h2, h3⟩ := h.ent f hf
      exact ⟨r, by omega, h2, by rw [slN_ne (by omega)]; exact h3⟩
  · by_cases d : r = i
    · subst d
      exact .inl ⟨e, p.symm.subset (List.mem_cons_self ..), ex, by rw [slN_same]; exact ey⟩
    · rw [slN_ne d]
      rcases h.reg r (by omega) with ⟨f, hf, f1, f2⟩ | z
      · exact .inl ⟨f, p.symm.subset (List.mem_cons_of_mem _ hf), f1, f2⟩
      · exact .inr z
  · have e1 : ivn (List.range (es.length + 1)) = ivn (List.range es.length) ++ [(es.length : Int)] := by rw [List.range_succ, ivn_app]; rfl
    rw [e1]
    have e2 : es'.map (·.y) ++ ivn [] = es'.map (·.y) := List.append_nil _
    rw [e2]
    refine List.Perm.trans (p.map (·.y)) ?_
    rw [List.map_cons, ey]
    have hp := h.perm
    have e3 : es.map (·.y) ++ ivn [] = es.map (·.y) := List.append_nil _
    rw [e3] at hp
    exact (hp.cons _).trans (List.perm_append_singleton _ _).symm
  · by_cases d : r = i
    · rw [d, slN_same]; omega
    · rw [slN_ne d]; have := h.lt r (by omega); omega
  · by_cases d : t = es.length
    · exact ⟨i, by omega, by rw [slN_same, d]⟩
    · obtain ⟨r, hr, er⟩ := h.all t (by omega)
      exact ⟨r, by omega, by rw [slN_ne (by omega)]; exact er⟩
  · have := h.lt q hq; omega
  · have e1 := fi_ge i
    have e2 := (fi_le (r := i) (j := b.code.length)).mpr hi
    have e3 := la_ge wf hi
    refine ⟨(fi i + 1).toNat, by omega, ?_⟩
    have hj : (((fi i + 1).toNat : Nat) : Int) - 1 = fi i := by omega
    have ir : i < 3 + (fi i + 1).toNat := fi_le.mp (by omega)
    have pick : ∀ f : {f // f ∈ es}, ∃ r, r < i ∧ f.1.x = la b r ∧ f.1.y = (sl r : Int) := fun f => h.ent f.1 f.2
    have ndm : (es.map (·.y)).Nodup := (List.nodup_append.mp nd).1
    have key : ((i :: es.attach.map fun f => (pick f).choose)).length ≤ (row b (fi i + 1).toNat).length := by
      refine sub_len (List.nodup_cons.mpr ⟨fun m => ?_, ?_⟩) fun x hx => ?_
      · obtain ⟨f, _, ef⟩ := List.mem_map.mp m
        have := (pick f).choose_spec.1
        omega
      · unfold List.Nodup at ndm ⊢
        rw [List.pairwise_map] at ndm ⊢
        have at1 : es.attach.Pairwise fun f g => f.1.y ≠ g.1.y := by
          have := List.pairwise_map (f := Subtype.val) (l := es.attach) (R := fun (f g : HQ.Hi) => f.y ≠ g.y)
          rw [List.attach_map_subtype_val] at this
          exact this.mp ndm
        refine at1.imp fun {f g} z w => z ?_
        rw [(pick f).choose_spec.2.2, (pick g).choose_spec.2.2, w]
      · rcases List.mem_cons.mp hx with rfl | hx
        · exact row_mem.mpr ⟨ir, by omega⟩
        · obtain ⟨f, _, rfl⟩ := List.mem_map.mp hx
          have sp := (pick f).choose_spec
          have := c f.1 f.2
          exact row_mem.mpr ⟨by omega, by rw [← sp.2.1]; omega⟩
    rw [List.length_cons, List.length_map, List.length_attach] at key
    exact key
/-- what plan promises -/
structure PlanOk (b : Bk) (m : Nat) (sl : Nat → Nat) : Prop where
  right : RightP b fun r => some (sl r : Int)
  lt : ∀ r, r < 3 + b.code.length → sl r < m
  all : ∀ s, s < m → ∃ r, r < 3 + b.code.length ∧ sl r = s
  most : ∃ j, j ≤ b.code.length ∧ (row b j).length = m ∧ ∀ i, i ≤ b.code.length → (row b i).length ≤ m
theorem PI.done {b : Bk} (wf : WfB b) {F : Int} {m : Nat} {sl : Nat → Nat} {es : List HQ.Hi} {fr : List Nat} (h : PI b (3 + b.code.length) F m sl es fr) : PlanOk b m sl := by
  have up : ∀ i, i ≤ b.code.length → (row b i).length ≤ m := fun i hi => by
    have ft := (fits_iff wf (fun r => some (sl r : Int))).mpr h.right i hi
    have : ((row b i).map sl).length ≤ (List.range m).length := by
      refine sub_len ?_ fun x hx => ?_
      · unfold List.Nodup
        rw [List.pairwise_map]
        exact ft.2.imp fun {x y} z w => z (by show some (sl x : Int) = some (sl y : Int); rw [w])
      · obtain ⟨r, hr, rfl⟩ := List.mem_map.mp hx
        exact List.mem_range.mpr (h.lt r (by have := (row_mem.mp hr).1; omega))
    simpa using this
  refine ⟨h.right, h.lt, h.all, ?_⟩
  rcases h.most with z | ⟨j, hj, g⟩
  · subst z
    have := h.lt 0 (by omega)
    omega
  · exact ⟨j, hj, Nat.le_antisymm (up j hj) g, up⟩
/-- the heap of plan: D the slots, fq the free ones, tk the taken ones -/
structure PSt (b : Bk) (S : Addr) (od : Obj) (ts : Nat → Addr) (D fq tk : Addr) (H0 H : Hp) (i : Nat) (sl : Nat → Nat) (es : List HQ.Hi) (fr : List Nat) : Prop where
  sm : Same H0 H
  d0 : H0 D = none
  f0 : H0 fq = none
  t0 : H0 tk = none
  ft : fq ≠ tk
  hS : H S = some (.frz od (.dK (dl (3 + b.code.length) fun r => .ref (ts r))))
  hD : H D = some (.dK (dl i fun r => .int (sl r : Int)))
  hf : H fq = some (.lst (iv (ivn fr)))
  ht : H tk = some (.lst (HQ.refs es))
  he : HQ.HiAt H es
  sp : ∀ r, r < 3 + b.code.length → H (ts r) = some (.tup [.int (fi r), .int (la b r)])
section
variable {b : Bk} {S : Addr} {od : Obj} {ts : Nat → Addr} {D fq tk : Addr} {H0 H : Hp} {i : Nat} {sl : Nat → Nat} {es : List HQ.Hi} {fr : List Nat}
theorem PSt.same {H' : Hp} (h : PSt b S od ts D fq tk H0 H i sl es fr) (s : Same H H') : PSt b S od ts D fq tk H0 H' i sl es fr :=
  { h with sm := h.sm.trans s, hS := s _ _ h.hS, hD := s _ _ h.hD, hf := s _ _ h.hf, ht := s _ _ h.ht, he := fun e m => s _ _ (h.he e m), sp := fun r hr => s _ _ (h.sp r hr) }
theorem PSt.putT (h : PSt b S od ts D fq tk H0 H i sl es fr) {es' : List HQ.Hi} (he : HQ.HiAt H es') : PSt b S od ts D fq tk H0 (upd H tk (.lst (HQ.refs es'))) i sl es' fr := by
  have ne : ∀ {z : Addr} {o : HO}, H z = some o → (∀ xs, o ≠ .lst xs) → z ≠ tk := fun {z o} e n k => by rw [k, h.ht] at e; exact n _ (Option.some.inj e).symm
  refine { h with sm := same_upd h.sm h.t0, hS := ?_, hD := ?_, hf := ?_, ht := upd_same, he := fun e m => ?_, sp := fun r hr => ?_ }
  · rw [upd_ne (ne h.hS nofun)]; exact h.hS
  · rw [upd_ne (ne h.hD nofun)]; exact h.hD
  · rw [upd_ne h.ft]; exact h.hf
  · rw [upd_ne (ne (he e m) nofun)]; exact he e m
  · rw [upd_ne (ne (h.sp r hr) nofun)]; exact h.sp r hr
theorem PSt.putF (h : PSt b S od ts D fq tk H0 H i sl es fr) {fr' : List Nat} {xs : List V} (ex : xs = iv (ivn fr')) : PSt b S od ts D fq tk H0 (upd H fq (.lst xs)) i sl es fr' := by
  have ne : ∀ {z : Addr} {o : HO}, H z = some o → (∀ xs, o ≠ .lst xs) → z ≠ fq := fun {z o} e n k => by rw [k, h.hf] at e; exact n _ (Option.some.inj e).symm
  refine { h with sm := same_upd h.sm h.f0, hS := ?_, hD := ?_, hf := by rw [ex]; exact upd_same, ht := ?_, he := fun e m => ?_, sp := fun r hr => ?_ }
  · rw [upd_ne (ne h.hS nofun)]; exact h.hS
  · rw [upd_ne (ne h.hD nofun)]; exact h.hD
  · rw [upd_ne h.ft.symm]; exact h.ht
  · rw [upd_ne (ne (h.he e m) nofun)]; exact h.he e m
  · rw [upd_ne (ne (h.sp r hr) nofun)]; exact h.sp r hr
theorem PSt.putD (h : PSt b S od ts D fq tk H0 H i sl es fr) (s : Nat) : PSt b S od ts D fq tk H0 (upd H D (.dK (putK (dl i fun r => .int (sl r : Int)) (.inl (i : Int)) (.int (s : Int))))) (i + 1) (slN sl i s) es fr := by
  have ne : ∀ {z : Addr} {o : HO}, H z = some o → (∀ xs, o ≠ .dK xs) → z ≠ D := fun {z o} e n k => by rw [k, h.hD] at e; exact n _ (Option.some.inj e).symm
  refine { h with sm := same_upd h.sm h.d0, hS := ?_, hD := ?_, hf := ?_, ht := ?_, he := fun e m => ?_, sp := fun r hr => ?_ }
  · rw [upd_ne (ne h.hS nofun)]; exact h.hS
  · rw [upd_same, dl_new]
    refine congrArg (fun z => some (HO.dK z)) (dl_congr fun r hr => ?_)
    by_cases c : r = i
    · rw [if_pos c, c, slN_same]
    · rw [if_neg c, slN_ne c]
  · rw [upd_ne (ne h.hf nofun)]; exact h.hf
  · rw [upd_ne (ne h.ht nofun)]; exact h.ht
  · rw [upd_ne (ne (h.he e m) nofun)]; exact h.he e m
  · rw [upd_ne (ne (h.sp r hr) nofun)]; exact h.sp r hr
end
section
variable {P : Program} {w : World} {K : PySem.W.Frag} {mg : Str → Option Value} {base : Heap} {a : Ad}
def spPlan : Sp := fun vs H Q _ => ∃ (nm : Str) (b : Bk) (v : V), vs = [v] ∧ BlkAt [] H nm b v ∧ WfB b ∧
  ∀ (H' : Hp) (q : Addr) (m : Nat) (sl : Nat → Nat), Same H H' → H q = none → H' q = some (.dK (dl (3 + b.code.length) fun r => .int (sl r : Int))) → PlanOk b m sl → Q (.ref q) H'
theorem ok_plan (T : Txt w K mg a) : FnOk P w K mg base CX0 4 a.plan.1 a.plan.2 ["block"] spPlan := by
  refine T.plan.F.ok sc_plan (fun vs H Q E h => ?_) (fun cdv A outer s H vs Q E hr h => ?_)
  · obtain ⟨_, _, _, rfl, _⟩ := h
    rfl
  obtain ⟨nm, b, v, rfl, hB, wf, q⟩ := h
  have nd := sc_plan.nd
  have hu := hu_of hr
  have G_spans_of := ok_spans_of (P := P) (w := w) (base := base) T
  have n37 := wf.len
  refine ⟨_, (pss_cons (ps_set (i := 1) nd rfl (Or.inl rfl) pe_dnewK)
  (pss_cons (ps_set (i := 2) nd rfl (Or.inl rfl) (pe_lst pa_nil))
  (pss_cons (ps_set (i := 3) nd rfl (Or.inl rfl) (pe_lst pa_nil))
  (pss_cons (ps_for PassesOwn.never rfl (pi_items (HE.pe_frz (pe_call G_spans_of (hr.mono (by omega)) rfl T.spans_of.g T.spans_of.F.kp T.spans_of.b .nil pass0 (pa_cons (pv 0) pa_nil)))) (pg_tup rfl (pgs_cons (pg_name (i := 4) nd rfl (Or.inl rfl)) (pgs_cons (pg_tup rfl (pgs_cons (pg_name (i := 5) nd rfl (Or.inl rfl)) (pgs_cons (pg_name (i := 6) nd rfl (Or.inl rfl)) pgs_nil))) pgs_nil))) (pss_cons (ps_while PassesOwn.never (PW.pt (pw_and (pt_truth (pv 3) (by intro _; rfl)) (pw_and1 (pt_cmpR op_lt (pe_ix ix_tup (pe_ix ix_list (pv 3) pe_int (fun _ _ => rfl)) pe_int (fun _ _ => rfl)) (pv 5) (nomark _))))) (pss_one (ps_expr (pe_bm PySem.F.plainAttrs_list PySem.F.slot_list_append PySem.F.type_list_append mt_append (pv 2) (pa_cons (pe_ix ix_tup (pe_callBfun (HQ.cr_pop hu) (by rfl) T.heappop (pa_cons (pv 3) pa_nil)) pe_int (fun _ _ => rfl)) pa_nil)))))
  (pss_cons (ps_dput hu (pv 1) (pv 4) (pe_ifExp (pt_truth (pv 2) (by intro _; rfl)) (pe_bm0 PySem.F.plainAttrs_list PySem.F.slot_list_pop PySem.F.type_list_pop mt_pop (pv 2)) (pe_callB call_len_seq (by rfl) T.len PySem.boot_len (pa_cons (pv 3) pa_nil))) rfl)
  (pss_one (ps_expr (pe_callBfun (HQ.cr_push hu) (by rfl) T.heappush (pa_cons (pv 3) (pa_cons (pe_tup (pa_cons (pv 6) (pa_cons (pe_dget hu (pv 1) (pv 4) (fun _ _ => rfl)) pa_nil))) pa_nil))))))))
  (pss_one (ps_ret (pv 1))))))), ?_⟩
  refine fun D nD => ?_
  have s1 := same_new nD (.dK [])
  refine ⟨(by show 0 ≤ sizeLine; decide), fun fq nf => ?_⟩
  have s2 := same_new nf (.lst [])
  refine ⟨(by show 0 ≤ sizeLine; decide), fun tk nt => ?_⟩
  have s3 := same_new nt (.lst [])
  have s13 := (s1.trans s2).trans s3
  refine ⟨_, rfl, nm, b, _, rfl, hB.fr (Fr.of s13), wf, fun H4 S ts s4 nS hS hsp => ⟨S, _, rfl, hS, fun od => ⟨S, od, _, rfl, upd_same, ?_⟩⟩⟩
  have S0 : H S = none := some_free0 s13 nS
  have hD4 := s4 _ _ (s3 _ _ (s2 _ _ (upd_same (H := H) (a := D) (o := .dK []))))
  have hf4 := s4 _ _ (s3 _ _ (upd_same (H := upd H D (.dK [])) (a := fq) (o := .lst [])))
  have ht4 := s4 _ _ (upd_same (H := upd (upd H D (.dK [])) fq (.lst [])) (a := tk) (o := .lst []))
  have nft : fq ≠ tk := ne_of_none (upd_same (H := upd H D (.dK [])) (a := fq) (o := .lst [])) nt
  have neS : ∀ {z : Addr} {o : HO}, H4 z = some o → (o ≠ .dK (dl (3 + b.code.length) fun r => .ref (ts r))) → z ≠ S := fun {z o} e n k => by rw [k, hS] at e; exact n (Option.some.inj e).symm
  have nDS : D ≠ S := ne_of_none (s3 _ _ (s2 _ _ (upd_same (H := H) (a := D) (o := .dK [])))) nS
  have st0 : PSt b S od ts D fq tk H (upd H4 S (.frz od (.dK (dl (3 + b.code.length) fun r => .ref (ts r))))) 0 (fun _ => 0) [] [] :=
    { sm := same_upd (s13.trans s4) S0, d0 := nD, f0 := some_free0 s1 nf, t0 := some_free0 (s1.trans s2) nt, ft := nft, hS := upd_same, hD := by rw [upd_ne nDS]; exact hD4, hf := by rw [upd_ne (neS hf4 nofun)]; exact hf4, ht := by rw [upd_ne (neS ht4 nofun)]; exact ht4, he := fun e m => absurd m List.not_mem_nil, sp := fun r hr => by rw [upd_ne (neS (hsp r hr) nofun)]; exact hsp r hr }
  refine for_it walk_items (fun i σ H5 => ∃ (v4 v5 v6 : Option V) (F : Int) (m : Nat) (sl : Nat → Nat) (es : List HQ.Hi) (fr : List Nat), σ = [some v, some (.ref D), some (.ref fq), some (.ref tk), v4, v5, v6] ∧ PSt b S od ts D fq tk H H5 i sl es fr ∧ PI b i F m sl es fr ∧ es.length + fr.length ≤ i ∧ ∀ j, i ≤ j → F ≤ fi j) ⟨none, none, none, -1, 0, _, [], [], rfl, st0, PI.start b (-1), Nat.le_refl _, fun j _ => fi_ge j⟩ (fun i σ H5 _ h => by obtain ⟨_, _, _, _, _, _, _, _, _, st, _⟩ := h; exact st.hS) ?_ ?_
  · rintro i y σ H5 H5' hi ⟨v4, v5, v6, F, m, sl, es, fr, rfl, st, pi, lim, mono⟩ ⟨te, e1, e2, rfl, nte, rfl, ee1, ee2⟩
    rw [dl_len] at hi
    obtain rfl := dl_key hi ee1
    obtain rfl := dl_val hi ee2
    have st6 := st.same (same_new nte (.tup [V.int (i : Int), V.ref (ts i)]))
    refine ⟨te, _, rfl, .inl (.inl upd_same), rfl, _, _, rfl, _, _, rfl, ts i, _, rfl, .inl (.inl (st6.sp i hi)), rfl, _, _, rfl, _, _, rfl, rfl, rfl, ?_⟩
    -- the slots that are taken no longer
    refine ⟨fun n σ' H7 => ∃ (es7 : List HQ.Hi) (fr7 : List Nat), n = es7.length ∧ σ' = [some v, some (.ref D), some (.ref fq), some (.ref tk), some (.int (i : Int)), some (.int (fi i)), some (.int (la b i))] ∧ PSt b S od ts D fq tk H H7 i sl es7 fr7 ∧ PI b i (fi i) m sl es7 fr7 ∧ es7.length + fr7.length ≤ i, ⟨es.length, es, fr, rfl, rfl, st6, pi.mono (mono i (Nat.le_refl _)), lim⟩, ?_⟩
    rintro n σ' H7 ⟨es7, fr7, rfl, rfl, st7, pi7, lim7⟩
    cases es7 with
    | nil =>
      refine ⟨_, rfl, _, .inl ⟨_, SqL.of st7.ht, rfl⟩, ?_⟩
      refine ifF rfl ?_
      refine ifF rfl ?_
      have cc : ∀ f ∈ ([] : List HQ.Hi), fi i ≤ f.x := fun f hf => absurd hf List.not_mem_nil
      rcases List.eq_nil_or_concat fr7 with hfr | ⟨fr8, s, hfr⟩
      · subst hfr
        refine ⟨_, rfl, _, .inl ⟨_, SqL.of st7.hf, rfl⟩, ?_⟩
        refine ifF rfl ?_
        refine ⟨_, rfl, tk, _, rfl, .inl (SqL.of st7.ht), _, rfl, _, rfl, D, _, rfl, DPut.k (k := Sum.inl (i : Int)) st7.hD (by rw [dl_len]; exact small1000 (by omega)), ?_⟩
        have el : (HQ.refs ([] : List HQ.Hi)).length = (([] : List HQ.Hi)).length := by unfold HQ.refs; rw [List.length_map]
        rw [el]
        have st8 := st7.putD (([] : List HQ.Hi)).length
        have gd := st8.hD
        refine ⟨_, rfl, _, rfl, _, rfl, _, rfl, D, .int ((([] : List HQ.Hi)).length : Nat), rfl, .inl ⟨_, .inl (i : Int), .inl gd, rfl, by rw [dl_get (Nat.lt_succ_self i), slN_same]⟩, (by show 2 ≤ sizeLine; decide), fun pt npt => ?_⟩
        have st9 := st8.same (same_new npt (.tup [V.int (la b i), V.int ((([] : List HQ.Hi)).length : Nat)]))
        refine ⟨tk, ([] : List HQ.Hi), ⟨pt, la b i, ((([] : List HQ.Hi)).length : Nat)⟩, rfl, st9.ht, st9.he, upd_same, by omega, pi7.ord, fun es' pm od' => ?_⟩
        have st10 := st9.putT (es' := es') fun f hf => by
          rcases List.mem_cons.mp (pm.subset hf) with rfl | hf
          · exact upd_same
          · exact st9.he f hf
        obtain ⟨_, pi8⟩ := pi7.grow wf hi cc pm od' rfl rfl
        exact ⟨_, _, _, fi i, m + 1, _, es', [], rfl, st10, pi8, by have := pm.length_eq; simp only [List.length_cons, List.length_nil] at this lim7 ⊢; omega, fun j hj => by unfold fi; split <;> split <;> omega⟩
      · rw [List.concat_eq_append] at hfr
        subst hfr
        have efr : iv (ivn (fr8 ++ [s])) = iv (ivn fr8) ++ [V.int (s : Int)] := by rw [ivn_app]; simp [iv, ivn]
        refine ⟨_, rfl, _, .inl ⟨_, SqL.of st7.hf, rfl⟩, ?_⟩
        refine ifT (by rw [efr]; simp) ?_
        refine ⟨_, rfl, .inl ⟨rfl, _, SqL.of st7.hf⟩, fq, _, .int (s : Int), rfl, rfl, st7.hf, by rw [efr]; simp, ?_⟩
        have st7f := st7.putF (fr' := fr8) (xs := (iv (ivn (fr8 ++ [s]))).dropLast) (by rw [efr, List.dropLast_concat])
        refine ⟨_, rfl, _, rfl, D, _, rfl, DPut.k (k := Sum.inl (i : Int)) st7f.hD (by rw [dl_len]; exact small1000 (by omega)), ?_⟩
        have st8 := st7f.putD s
        have gd := st8.hD
        refine ⟨_, rfl, _, rfl, _, rfl, _, rfl, D, .int (s : Nat), rfl, .inl ⟨_, .inl (i : Int), .inl gd, rfl, by rw [dl_get (Nat.lt_succ_self i), slN_same]⟩, (by show 2 ≤ sizeLine; decide), fun pt npt => ?_⟩
        have st9 := st8.same (same_new npt (.tup [V.int (la b i), V.int (s : Nat)]))
        rw [List.length_append, List.length_singleton] at lim7
        refine ⟨tk, ([] : List HQ.Hi), ⟨pt, la b i, (s : Nat)⟩, rfl, st9.ht, st9.he, upd_same, by omega, pi7.ord, fun es' pm od' => ?_⟩
        have st10 := st9.putT (es' := es') fun f hf => by
          rcases List.mem_cons.mp (pm.subset hf) with rfl | hf
          · exact upd_same
          · exact st9.he f hf
        have pi8 := pi7.take pm od' rfl rfl
        exact ⟨_, _, _, fi i, m, _, es', fr8, rfl, st10, pi8, by have := pm.length_eq; rw [List.length_cons] at this; omega, fun j hj => by unfold fi; split <;> split <;> omega⟩
    | cons e0 er =>
      refine ⟨_, rfl, _, .inl ⟨_, SqL.of st7.ht, rfl⟩, ?_⟩
      refine ifT rfl ?_
      refine ⟨_, rfl, tk, _, _, _, rfl, rfl, SqL.of st7.ht, atI_nat (j := 0) rfl, e0.a, _, _, _, rfl, rfl, .inl (.inl (st7.he e0 (List.mem_cons_self ..))), atI_nat (j := 0) rfl, _, rfl, _, _, rfl, rfl, _, rfl, ?_⟩
      by_cases c : e0.x < fi i
      · refine ifT (decide_eq_true c) ?_
        refine ⟨fun σ2 H8 => ∃ (es8 : List HQ.Hi) (fr8 : List Nat), es8.length = er.length ∧ σ2 = [some v, some (.ref D), some (.ref fq), some (.ref tk), some (.int (i : Int)), some (.int (fi i)), some (.int (la b i))] ∧ PSt b S od ts D fq tk H H8 i sl es8 fr8 ∧ PI b i (fi i) m sl es8 fr8 ∧ es8.length + fr8.length ≤ i, fun σ2 H8 ⟨es8, fr8, l8, h8⟩ => ⟨es8.length, by rw [l8]; exact Nat.lt_succ_self _, es8, fr8, rfl, h8⟩, ?_⟩
        refine ⟨_, rfl, .inl ⟨rfl, _, SqL.of st7.hf⟩, _, rfl, tk, e0 :: er, e0, rfl, st7.ht, st7.he, rfl, pi7.ord, fun es' pm od' => ?_⟩
        have st8 := st7.putT (es' := es') fun f hf => st7.he f (pm.subset (List.mem_cons_of_mem _ hf))
        obtain ⟨s, ey, pi8⟩ := pi7.pop pm od' c
        have he0 := st7.he e0 (List.mem_cons_self ..)
        have he8 : (upd H7 tk (.lst (HQ.refs es'))) e0.a = some (.tup [.int e0.x, .int e0.y]) := by
          rw [upd_ne (fun z => by have t := st7.ht; rw [← z, he0] at t; cases t)]
          exact he0
        refine ⟨e0.a, _, _, _, rfl, rfl, .inl (.inl he8), atI_nat (j := 1) rfl, fq, _, _, rfl, rfl, st8.hf, by rw [iv_len, ivn_len]; rw [List.length_cons] at lim7; exact small1000 (by omega), ?_⟩
        have len := pm.length_eq
        rw [List.length_cons, List.length_cons] at len
        rw [ey]
        exact ⟨es', fr7 ++ [s], by omega, rfl, st8.putF (by rw [ivn_app]; simp [iv, ivn]), pi8, by rw [List.length_append, List.length_singleton]; rw [List.length_cons] at lim7; omega⟩
      · refine ifF (decide_eq_false c) ?_
        have cc : ∀ f ∈ e0 :: er, fi i ≤ f.x := fun f hf => by
          have := pi7.ord.least (r := e0) rfl hf
          omega
        rcases List.eq_nil_or_concat fr7 with hfr | ⟨fr8, s, hfr⟩
        · subst hfr
          refine ⟨_, rfl, _, .inl ⟨_, SqL.of st7.hf, rfl⟩, ?_⟩
          refine ifF rfl ?_
          refine ⟨_, rfl, tk, _, rfl, .inl (SqL.of st7.ht), _, rfl, _, rfl, D, _, rfl, DPut.k (k := Sum.inl (i : Int)) st7.hD (by rw [dl_len]; exact small1000 (by omega)), ?_⟩
          have el : (HQ.refs (e0 :: er)).length = (e0 :: er).length := by unfold HQ.refs; rw [List.length_map]
          rw [el]
          have st8 := st7.putD (e0 :: er).length
          have gd := st8.hD
          refine ⟨_, rfl, _, rfl, _, rfl, _, rfl, D, .int ((e0 :: er).length : Nat), rfl, .inl ⟨_, .inl (i : Int), .inl gd, rfl, by rw [dl_get (Nat.lt_succ_self i), slN_same]⟩, (by show 2 ≤ sizeLine; decide), fun pt npt => ?_⟩
          have st9 := st8.same (same_new npt (.tup [V.int (la b i), V.int ((e0 :: er).length : Nat)]))
          refine ⟨tk, e0 :: er, ⟨pt, la b i, ((e0 :: er).length : Nat)⟩, rfl, st9.ht, st9.he, upd_same, by omega, pi7.ord, fun es' pm od' => ?_⟩
          have st10 := st9.putT (es' := es') fun f hf => by
            rcases List.mem_cons.mp (pm.subset hf) with rfl | hf
            · exact upd_same
            · exact st9.he f hf
          obtain ⟨_, pi8⟩ := pi7.grow wf hi cc pm od' rfl rfl
          exact ⟨_, _, _, fi i, m + 1, _, es', [], rfl, st10, pi8, by have := pm.length_eq; simp only [List.length_cons, List.length_nil] at this lim7 ⊢; omega, fun j hj => by unfold fi; split <;> split <;> omega⟩
        · rw [List.concat_eq_append] at hfr
          subst hfr
          have efr : iv (ivn (fr8 ++ [s])) = iv (ivn fr8) ++ [V.int (s : Int)] := by rw [ivn_app]; simp [iv, ivn]
          refine ⟨_, rfl, _, .inl ⟨_, SqL.of st7.hf, rfl⟩, ?_⟩
          refine ifT (by rw [efr]; simp) ?_
          refine ⟨_, rfl, .inl ⟨rfl, _, SqL.of st7.hf⟩, fq, _, .int (s : Int), rfl, rfl, st7.hf, by rw [efr]; simp, ?_⟩
          have st7f := st7.putF (fr' := fr8) (xs := (iv (ivn (fr8 ++ [s]))).dropLast) (by rw [efr, List.dropLast_concat])
          refine ⟨_, rfl, _, rfl, D, _, rfl, DPut.k (k := Sum.inl (i : Int)) st7f.hD (by rw [dl_len]; exact small1000 (by omega)), ?_⟩
          have st8 := st7f.putD s
          have gd := st8.hD
          refine ⟨_, rfl, _, rfl, _, rfl, _, rfl, D, .int (s : Nat), rfl, .inl ⟨_, .inl (i : Int), .inl gd, rfl, by rw [dl_get (Nat.lt_succ_self i), slN_same]⟩, (by show 2 ≤ sizeLine; decide), fun pt npt => ?_⟩
          have st9 := st8.same (same_new npt (.tup [V.int (la b i), V.int (s : Nat)]))
          rw [List.length_append, List.length_singleton] at lim7
          refine ⟨tk, e0 :: er, ⟨pt, la b i, (s : Nat)⟩, rfl, st9.ht, st9.he, upd_same, by omega, pi7.ord, fun es' pm od' => ?_⟩
          have st10 := st9.putT (es' := es') fun f hf => by
            rcases List.mem_cons.mp (pm.subset hf) with rfl | hf
            · exact upd_same
            · exact st9.he f hf
          have pi8 := pi7.take pm od' rfl rfl
          exact ⟨_, _, _, fi i, m, _, es', fr8, rfl, st10, pi8, by have := pm.length_eq; rw [List.length_cons] at this; omega, fun j hj => by unfold fi; split <;> split <;> omega⟩
  rintro σ H5 ⟨v4, v5, v6, F, m, sl, es, fr, rfl, st, pi, lim, mono⟩
  have hD := st.hD
  rw [dl_len] at hD pi
  exact ⟨_, rfl, q H5 D m sl st.sm nD hD (pi.done wf)⟩
end
end K15

namespace K15
open PySem PySem.Spec PyProof.Rows L2
theorem cut_from (vs : List V) {a : Int} {j : Nat} (h : a = (j : Int)) : cutV vs (some a) none = vs.drop j := by
  subst h
  unfold cutV
  rw [HT.sIx_nat, HT.sIx_none, List.take_of_length_le (by rw [List.length_drop]; omega)]
  by_cases c : j ≤ vs.length
  · rw [Nat.min_eq_left c]
  · rw [Nat.min_eq_right (by omega), List.drop_of_length_le (Nat.le_refl _), List.drop_of_length_le (by omega)]
/-- the registers that are used from instruction j on, up to t more -/
def lat (b : Bk) (j t : Nat) : List Int := b.res :: ((b.code.drop j).take t).flatMap (·.ins)
theorem lat_succ {b : Bk} {j t : Nat} {x : In} (h : b.code[j + t]? = some x) : lat b j (t + 1) = lat b j t ++ x.ins := by
  unfold lat
  rw [List.take_add_one, List.getElem?_drop, h, List.flatMap_append]
  simp
theorem lat_mem {b : Bk} {j t : Nat} (ht : b.code.length ≤ j + t) {r : Int} : r ∈ lat b j t ↔ (r = b.res ∨ ∃ i x, j ≤ i ∧ b.code[i]? = some x ∧ r ∈ x.ins) := by
  unfold lat
  rw [List.mem_cons, List.take_of_length_le (by rw [List.length_drop]; omega), List.mem_flatMap]
  refine or_congr Iff.rfl ⟨?_, ?_⟩
  · rintro ⟨x, hx, m⟩
    obtain ⟨k, l, e⟩ := List.mem_iff_getElem.mp hx
    refine ⟨j + k, x, by omega, ?_, m⟩
    rw [← List.getElem?_drop, List.getElem?_eq_getElem l, e]
  · rintro ⟨i, x, hi, e, m⟩
    refine ⟨x, List.mem_of_getElem? (i := i - j) ?_, m⟩
    rw [List.getElem?_drop, show j + (i - j) = i by omega]; exact e
theorem lat_len {b : Bk} (wf : WfB b) (j t : Nat) : (lat b j t).length ≤ 1 + 3 * t := by
  unfold lat
  rw [List.length_cons, List.length_flatMap]
  have : ∀ (l : List In), (∀ x ∈ l, x.ins.length ≤ 3) → (l.map fun x => x.ins.length).sum ≤ 3 * l.length := fun l => by
    induction l with
    | nil => intro _; exact Nat.le_refl _
    | cons x l ih =>
      intro h
      have h1 := h x (List.mem_cons_self ..)
      have h2 := ih fun y hy => h y (List.mem_cons_of_mem _ hy)
      rw [List.map_cons, List.sum_cons, List.length_cons]
      omega
  have h := this ((b.code.drop j).take t) fun x hx => wf.few x (List.mem_of_mem_drop (List.mem_of_mem_take hx))
  have l2 : ((b.code.drop j).take t).length ≤ t := List.length_take_le _ _
  omega
section
variable {P : Program} {w : World} {K : PySem.W.Frag} {mg : Str → Option Value} {base : Heap} {a : Ad}
def spLLive (K : PySem.W.Frag) : Sp := fun vs H Q _ => ∃ (nm : Str) (b : Bk) (v : V), vs = [v] ∧ BlkAt [] H nm b v ∧ WfB b ∧
  ∀ (H' : Hp) (q : Addr) (ws : List Addr), Same H H' → H q = none → H' q = some (.lst (ws.map V.ref)) → VecsAt K H' ws (rowsI b (b.code.length + 1)) → (∀ z ∈ ws, H z = none) → Q (.ref q) H'
theorem ok_law_live (T : Txt w K mg a) : FnOk P w K mg base CX0 1 a.law_live.1 a.law_live.2 ["block"] (spLLive K) := by
  refine T.law_live.F.ok sc_law_live (fun vs H Q E h => ?_) (fun cdv A outer s H vs Q E hr h => ?_)
  · obtain ⟨_, _, _, rfl, _⟩ := h
    rfl
  obtain ⟨nm, b, v, rfl, hB, wf, q⟩ := h
  obtain ⟨t, cp, rp, pv_, nv, vs, rfl, ht, hP, hN, hcp, hins, hrp, n1, n2, n3⟩ := id hB
  have nd := sc_law_live.nd
  have vl := hins.len
  have n37 := wf.len
  have getI : ∀ {H' : Hp}, Same H H' → ∀ {k : Nat}, k < b.code.length → ∃ x tx aa bb, b.code[k]? = some x ∧ vs[k]? = some (.ref tx) ∧ H' tx = some (.tup [.str x.nm, x.ex, .ref aa, .ref bb]) ∧ H' aa = some (.lst (iv x.ins)) ∧ H' bb = some (.lst [.int (3 + (k : Int))]) := fun {H'} sm {k} hk => by
    obtain ⟨v, ev⟩ : ∃ v, vs[k]? = some v := ⟨_, List.getElem?_eq_getElem (by omega)⟩
    obtain ⟨x, tx, aa, bb, ex, rfl, h1, h2, h3⟩ := insAt_get (hins.fr (Fr.of sm)) ev
    rw [wf.out k x ex] at h3
    exact ⟨x, tx, aa, bb, ex, ev, h1, h2, h3⟩
  refine ⟨_, (pss_cons (ps_set (i := 1) nd rfl (Or.inl rfl) (pe_lst pa_nil))
  (pss_cons (ps_for PassesOwn.never rfl (pi_range2 rfl T.range (pa_cons (pe_un un_neg pe_int) (pa_cons (pe_callB call_len_seq (by rfl) T.len PySem.boot_len (pa_cons (pe_ix ix_tup (pv 0) pe_int (fun _ _ => rfl)) pa_nil)) pa_nil))) (pg_name (i := 2) nd rfl (Or.inl rfl)) (pss_cons (ps_set (i := 3) nd rfl (Or.inl rfl) (pe_lst pa_nil))
  (pss_cons (ps_set (i := 4) nd rfl (Or.inl rfl) (pe_lst (pa_cons pe_int (pa_cons pe_int (pa_cons pe_int pa_nil)))))
  (pss_cons (ps_for PassesOwn.never rfl (pi_range1 rfl T.range (pa_cons (pe_op op_add (pv 2) pe_int) pa_nil)) (pg_name (i := 5) nd rfl (Or.inl rfl)) (pss_one (ps_set (i := 4) nd rfl (Or.inl rfl) (pe_op op_cat (pv 4) (pe_ix ix_tup (pe_ix ix_list (pe_ix ix_tup (pv 0) pe_int (fun _ _ => rfl)) (pv 5) (fun _ _ => rfl)) pe_int (fun _ _ => rfl))))))
  (pss_cons (ps_set (i := 6) nd rfl (Or.inl rfl) (pe_callTy call_list_of (by rfl) T.list (by decide +kernel) (pa_cons (pe_ix ix_tup (pv 0) pe_int (fun _ _ => rfl)) pa_nil)))
  (pss_cons (ps_for PassesOwn.never rfl (pi_list (pe_slice sl_list (pe_ix ix_tup (pv 0) pe_int (fun _ _ => rfl)) (po_some (pe_op op_add (pv 2) pe_int)) po_none)) (pg_name (i := 7) nd rfl (Or.inl rfl)) (pss_one (ps_set (i := 6) nd rfl (Or.inl rfl) (pe_op op_cat (pv 6) (pe_ix ix_tup (pv 7) pe_int (fun _ _ => rfl))))))
  (pss_cons (ps_for PassesOwn.never rfl (pi_list (pv 4)) (pg_name (i := 8) nd rfl (Or.inl rfl)) (pss_cons (ps_set (i := 9) nd rfl (Or.inl rfl) (pe_or (pe_cmpR op_lt (pv 2) pe_int (nomark _)) (pe_one (pe_cmpR op_in_seq (pv 8) (pe_ix ix_tup (pe_ix ix_list (pe_ix ix_tup (pv 0) pe_int (fun _ _ => rfl)) (pv 2) (fun _ _ => rfl)) pe_int (fun _ _ => rfl)) (by rfl)))))
  (pss_one (ps_if (PW.pt (pw_and (PW.pt (pw_or (pt_val (pv 9)) (pw_or1 (pt_cmpR op_in_seq (pv 8) (pv 6) (by rfl))))) (pw_and1 (pt_cmpR op_notIn_seq (pv 8) (pv 3) (by rfl))))) (pss_one (ps_expr (pe_bm PySem.F.plainAttrs_list PySem.F.slot_list_append PySem.F.type_list_append mt_append (pv 3) (pa_cons (pv 8) pa_nil)))) pss_nil))))
  (pss_one (ps_expr (pe_bm PySem.F.plainAttrs_list PySem.F.slot_list_append PySem.F.type_list_append mt_append (pv 1) (pa_cons (pe_callB cr_sorted (by rfl) T.sorted (by decide +kernel) (pa_cons (pv 3) pa_nil)) pa_nil)))))))))))
  (pss_one (ps_ret (pv 1))))), ?_⟩
  refine ⟨(by show 0 ≤ sizeLine; decide), fun R nR => ?_⟩
  have s1 := same_new nR (.lst [])
  refine ⟨_, rfl, _, rfl, t, _, _, _, rfl, rfl, .inl (.inl (s1 _ _ ht)), atI_nat (j := 4) rfl, cp, _, rfl, .inl (SqL.of (s1 _ _ hcp)), _, _, rfl, by omega, for_it (walk_range (lo := -1) (n := ((vs.length : Int) - (-1)).toNat)) (fun j σ H1 => ∃ (v2 v3 v4 v5 v6 v7 v8 v9 : Option V) (ws : List Addr), σ = [some (.ref t), some (.ref R), v2, v3, v4, v5, v6, v7, v8, v9] ∧ Same H H1 ∧ H1 R = some (.lst (ws.map V.ref)) ∧ VecsAt K H1 ws (rowsI b j) ∧ R ∉ ws ∧ ∀ z ∈ ws, H z = none) ⟨none, none, none, none, none, none, none, none, [], rfl, s1, upd_same, trivial, List.not_mem_nil, fun z hz => absurd hz List.not_mem_nil⟩ (fun _ _ _ _ _ => trivial) ?_ ?_⟩
  · rintro j y σ Hx H1 hj ⟨v2, v3, v4, v5, v6, v7, v8, v9, ws, rfl, sm, hR, hV, nRw, nws⟩ ⟨rfl, rfl⟩
    have jn : j ≤ b.code.length := by omega
    have ea : (-1 : Int) + (j : Int) + 1 = (j : Int) := by omega
    refine ⟨(by show 0 ≤ sizeLine; decide), fun W nW => ?_⟩
    refine ⟨(by show 3 ≤ sizeLine; decide), fun nb nnb => ?_⟩
    have W0 : H W = none := some_free0 sm nW
    have s2 := (same_new nW (.lst [])).trans (same_new nnb (.lst [V.int 0, V.int 1, V.int 2]))
    have nWR : W ≠ R := fun z => by rw [z, hR] at nW; cases nW
    have hW2 := same_new nnb (.lst [V.int 0, V.int 1, V.int 2]) _ _ (upd_same (H := H1) (a := W) (o := .lst []))
    -- the numbers
    refine ⟨_, rfl, _, _, rfl, rfl, _, rfl, by omega, by omega, for_it (walk_range (lo := 0) (n := ((-1 : Int) + (j : Int) + 1).toNat)) (fun k σ H3 => ∃ (v5 : Option V) (nb' : Addr), σ = [some (.ref t), some (.ref R), some (.int (-1 + (j : Int))), some (.ref W), some (.ref nb'), v5, v6, v7, v8, v9] ∧ Same (upd (upd H1 W (.lst [])) nb (.lst [V.int 0, V.int 1, V.int 2])) H3 ∧ H3 nb' = some (.lst (iv (ivn (List.range (3 + k)))))) ⟨v5, nb, rfl, fun _ _ e => e, upd_same⟩ (fun _ _ _ _ _ => trivial) ?_ ?_⟩
    · rintro k y σ Hx H3 hk ⟨v5, nb3, rfl, s3, hnb⟩ ⟨rfl, rfl⟩
      rw [ea] at hk
      have hk' : k < j := by omega
      have s03 := (sm.trans s2).trans s3
      obtain ⟨x, tx, aa, bb, ex, ev, htx, haa, hbb⟩ := getI s03 (k := k) (by omega)
      refine ⟨_, rfl, _, rfl, t, _, _, _, rfl, rfl, .inl (.inl (s03 _ _ ht)), atI_nat (j := 4) rfl, _, rfl, cp, _, _, _, rfl, rfl, SqL.of (s03 _ _ hcp), by rw [Int.zero_add]; exact atI_nat ev, tx, _, _, _, rfl, rfl, .inl (.inl htx), atI_nat (j := 3) rfl, nb3, bb, _, _, rfl, rfl, hnb, hbb, by rw [iv_len, ivn_len, List.length_range]; exact Nat.le_trans (show _ ≤ 1000 by simp; omega) (by decide), fun p np => ?_⟩
      refine ⟨_, p, rfl, s3.trans (same_new np _), ?_⟩
      rw [upd_same, show 3 + (k + 1) = (3 + k) + 1 by omega, List.range_succ, ivn_app]
      simp [iv, ivn]
    rintro σ H3 ⟨v5, nb3, rfl, s3, hnb⟩
    rw [show ((-1 : Int) + (j : Int) + 1).toNat = j by omega] at hnb
    have s13 := s2.trans s3
    have s03 := sm.trans s13
    -- the later uses
    refine ⟨_, rfl, t, _, _, _, rfl, rfl, .inl (.inl (s03 _ _ ht)), atI_nat (j := 5) rfl, rp, _, rfl, .inl (SqL.of (s03 _ _ hrp)), fun l nl => ?_⟩
    have s4 := same_new nl (.lst [V.int b.res])
    have s04 := s03.trans s4
    refine ⟨_, rfl, t, _, _, _, rfl, rfl, .inl (.inl (s04 _ _ ht)), atI_nat (j := 4) rfl, _, rfl, _, _, rfl, rfl, _, rfl, cp, _, rfl, SqL.of (s04 _ _ hcp), fun d nd' => ?_⟩
    rw [cut_from vs ea]
    have s5 := same_new nd' (.lst (vs.drop j))
    refine ⟨d, rfl, ⟨_, SqL.of upd_same⟩, for_list (K := K) (a := d) (xs := vs.drop j) (fun u σ H6 => ∃ (v7 : Option V) (l' : Addr), σ = [some (.ref t), some (.ref R), some (.int (-1 + (j : Int))), some (.ref W), some (.ref nb3), v5, some (.ref l'), v7, v8, v9] ∧ Same (upd (upd H3 l (.lst [V.int b.res])) d (.lst (vs.drop j))) H6 ∧ H6 l' = some (.lst (iv (lat b j u)))) ⟨v7, l, rfl, ?_, ?_⟩ (fun u σ H6 _ h => by obtain ⟨_, _, _, s6, _⟩ := h; exact SqL.of (s6 _ _ upd_same)) ?_ ?_⟩
    · exact fun _ _ e => e
    · have e := s5 _ _ (upd_same (H := H3) (a := l) (o := .lst [V.int b.res]))
      rw [e]
      unfold lat
      simp [iv]
    · rintro u z σ H6 hu6 ⟨v7, l6, rfl, s6, hl6⟩
      rw [List.getElem?_drop] at hu6
      have lt := (List.getElem?_eq_some_iff.mp hu6).1
      have s06 := (s04.trans s5).trans s6
      obtain ⟨x, tx, aa, bb, ex, ev, htx, haa, hbb⟩ := getI s06 (k := j + u) (by omega)
      rw [ev] at hu6
      obtain rfl := Option.some.inj hu6
      have ll := lat_len wf j u
      have fx := wf.few x (List.mem_of_getElem? ex)
      refine ⟨_, rfl, _, rfl, tx, _, _, _, rfl, rfl, .inl (.inl htx), atI_nat (j := 2) rfl, l6, aa, _, _, rfl, rfl, hl6, haa, by rw [iv_len, iv_len]; exact Nat.le_trans (show _ ≤ 1000 by omega) (by decide), fun p np => ?_⟩
      refine ⟨_, p, rfl, s6.trans (same_new np _), ?_⟩
      rw [upd_same, lat_succ ex]
      simp [iv]
    rintro σ H6 ⟨v7, l6, rfl, s6, hl6⟩
    rw [List.length_drop] at hl6
    have s36 := (s4.trans s5).trans s6
    have s06 := s03.trans s36
    have hnb6 := s36 _ _ hnb
    have hW6 : H6 W = some (.lst []) := s36 _ _ (s3 _ _ hW2)
    have hR6 := s36 _ _ (s13 _ _ hR)
    have lm : ∀ {r : Int}, r ∈ lat b j (vs.length - j) ↔ (r = b.res ∨ ∃ i x, j ≤ i ∧ b.code[i]? = some x ∧ r ∈ x.ins) := fun {r} => lat_mem (by omega)
    have nbW : nb3 ≠ W := fun z => by
      rw [z, hW6] at hnb6
      have e := HO.lst.inj (Option.some.inj hnb6)
      have := congrArg List.length e
      rw [iv_len, ivn_len, List.length_range, List.length_nil] at this
      omega
    have lW : l6 ≠ W := fun z => by
      rw [z, hW6] at hl6
      have e := HO.lst.inj (Option.some.inj hl6)
      exact absurd e (by unfold lat; simp [iv])
    have flatI : ∀ l : List Int, (iv l).all flatV = true := fun l => List.all_eq_true.mpr fun u hu' => by obtain ⟨n, _, rfl⟩ := List.mem_map.mp hu'; rfl
    -- one row
    refine ⟨_, rfl, nb3, rfl, ⟨_, SqL.of hnb6⟩, for_list (K := K) (a := nb3) (xs := iv (ivn (List.range (3 + j)))) (fun u σ H7 => ∃ (v8 v9 : Option V), σ = [some (.ref t), some (.ref R), some (.int (-1 + (j : Int))), some (.ref W), some (.ref nb3), v5, some (.ref l6), v7, v8, v9] ∧ (∀ z o, z ≠ W → H6 z = some o → H7 z = some o) ∧ Same H H7 ∧ H7 W = some (.lst (iv (ivn (((List.range (3 + j)).take u).filter fun r => decide ((j : Int) - 1 ≤ la b r)))))) ⟨v8, v9, rfl, fun _ _ _ e => e, s06, hW6⟩ (fun u σ H7 _ h => by obtain ⟨_, _, _, k7, _⟩ := h; exact SqL.of (k7 _ _ nbW hnb6)) ?_ ?_⟩
    · rintro u z σ H7 hu7 ⟨v8, v9, rfl, k7, s07, hW7⟩
      have lu : u < 3 + j := by
        have := (List.getElem?_eq_some_iff.mp hu7).1
        rw [iv_len, ivn_len, List.length_range] at this
        exact this
      have er : (List.range (3 + j))[u]? = some u := List.getElem?_range lu
      obtain rfl : V.int (u : Int) = z := by
        have e2 : (iv (ivn (List.range (3 + j))))[u]? = some (V.int (u : Int)) := by unfold iv ivn; rw [List.getElem?_map, List.getElem?_map, er]; rfl
        rw [e2] at hu7
        exact Option.some.inj hu7
      have fl : (((List.range (3 + j)).take u).filter fun r => decide ((j : Int) - 1 ≤ la b r)).length ≤ 100 := Nat.le_trans (List.length_filter_le _ _) (Nat.le_trans (List.length_take_le _ _) (by omega))
      have notyet : ¬ (u : Int) ∈ ivn (((List.range (3 + j)).take u).filter fun r => decide ((j : Int) - 1 ≤ la b r)) := fun m => by
        unfold ivn at m
        obtain ⟨r, hr, e⟩ := List.mem_map.mp m
        have hr2 := (List.mem_filter.mp hr).1
        rw [List.take_range] at hr2
        have := List.mem_range.mp hr2
        omega
      have li := la_iff wf lu jn
      have hl7 := k7 _ _ lW hl6
      by_cases j0 : j = 0
      · refine ⟨_, rfl, _, _, rfl, rfl, _, rfl, ?_⟩
        refine ifT (decide_eq_true (by omega)) ?_
        refine ⟨_, rfl, _, rfl, ?_⟩
        refine ifT rfl ?_
        refine ⟨_, rfl, _, rfl, W, _, rfl, .inl (SqL.of hW7), rfl, flatI _, _, rfl, ?_⟩
        refine ifT (by rw [show inV (V.int (u : Int)) (iv (ivn (((List.range (3 + j)).take u).filter fun r => decide ((j : Int) - 1 ≤ la b r)))) = false from Bool.eq_false_iff.mpr fun z => notyet (in_ints.mp z)]; rfl) ?_
        refine ⟨_, rfl, .inl ⟨rfl, _, SqL.of hW7⟩, _, rfl, W, _, _, rfl, rfl, hW7, by rw [iv_len, ivn_len]; exact small1000 (by omega), ?_⟩
        exact ⟨_, _, rfl, fun z o n e => by rw [upd_ne n]; exact k7 z o n e, same_upd s07 W0, by rw [upd_same, filter_take _ er, if_pos (decide_eq_true (li.mpr (.inl (.inl j0)))), ivn_app]; simp [iv, ivn]⟩
      · refine ⟨_, rfl, _, _, rfl, rfl, _, rfl, ?_⟩
        refine ifF (decide_eq_false (by omega)) ?_
        obtain ⟨x, tx, aa, bb, ex, ev, htx, haa, hbb⟩ := getI s07 (k := j - 1) (by omega)
        have e3 : (3 : Int) + ((j - 1 : Nat) : Int) = 2 + (j : Int) := by omega
        rw [e3] at hbb
        refine ⟨_, rfl, _, rfl, t, _, _, _, rfl, rfl, .inl (.inl (s07 _ _ ht)), atI_nat (j := 4) rfl, _, rfl, cp, _, _, _, rfl, rfl, SqL.of (s07 _ _ hcp), by rw [show (-1 : Int) + (j : Int) = ((j - 1 : Nat) : Int) by omega]; exact atI_nat ev, tx, _, _, _, rfl, rfl, .inl (.inl htx), atI_nat (j := 3) rfl, bb, _, rfl, .inl (SqL.of hbb), rfl, flatI [2 + (j : Int)], ?_⟩
        refine ⟨_, rfl, _, rfl, ?_⟩
        by_cases c1 : (u : Int) ∈ [2 + (j : Int)]
        · refine ifT (in_ints (ns := [2 + (j : Int)]) |>.mpr c1) ?_
          refine ⟨_, rfl, _, rfl, W, _, rfl, .inl (SqL.of hW7), rfl, flatI _, _, rfl, ?_⟩
          refine ifT (by rw [show inV (V.int (u : Int)) (iv (ivn (((List.range (3 + j)).take u).filter fun r => decide ((j : Int) - 1 ≤ la b r)))) = false from Bool.eq_false_iff.mpr fun z => notyet (in_ints.mp z)]; rfl) ?_
          refine ⟨_, rfl, .inl ⟨rfl, _, SqL.of hW7⟩, _, rfl, W, _, _, rfl, rfl, hW7, by rw [iv_len, ivn_len]; exact small1000 (by omega), ?_⟩
          exact ⟨_, _, rfl, fun z o n e => by rw [upd_ne n]; exact k7 z o n e, same_upd s07 W0, by rw [upd_same, filter_take _ er, if_pos (decide_eq_true (li.mpr (.inl (.inr (by have := List.mem_singleton.mp c1; omega))))), ivn_app]; simp [iv, ivn]⟩
        · refine ifF (Bool.eq_false_iff.mpr fun z => c1 (in_ints (ns := [2 + (j : Int)]) |>.mp z)) ?_
          refine ⟨_, rfl, _, rfl, l6, _, rfl, .inl (SqL.of hl7), rfl, flatI _, _, rfl, ?_⟩
          by_cases c2 : (u : Int) ∈ lat b j (vs.length - j)
          · refine ifT (in_ints.mpr c2) ?_
            refine ⟨_, rfl, _, rfl, W, _, rfl, .inl (SqL.of hW7), rfl, flatI _, _, rfl, ?_⟩
            refine ifT (by rw [show inV (V.int (u : Int)) (iv (ivn (((List.range (3 + j)).take u).filter fun r => decide ((j : Int) - 1 ≤ la b r)))) = false from Bool.eq_false_iff.mpr fun z => notyet (in_ints.mp z)]; rfl) ?_
            refine ⟨_, rfl, .inl ⟨rfl, _, SqL.of hW7⟩, _, rfl, W, _, _, rfl, rfl, hW7, by rw [iv_len, ivn_len]; exact small1000 (by omega), ?_⟩
            exact ⟨_, _, rfl, fun z o n e => by rw [upd_ne n]; exact k7 z o n e, same_upd s07 W0, by rw [upd_same, filter_take _ er, if_pos (decide_eq_true (li.mpr (.inr (lm.mp c2)))), ivn_app]; simp [iv, ivn]⟩
          · refine ifF (Bool.eq_false_iff.mpr fun z => c2 (in_ints.mp z)) ?_
            have no : ¬ (j : Int) - 1 ≤ la b u := fun z => by
              rcases li.mp z with (z | z) | z
              · exact j0 z
              · exact c1 (List.mem_singleton.mpr (by omega))
              · exact c2 (lm.mpr z)
            exact ⟨_, _, rfl, k7, s07, by rw [filter_take _ er, if_neg (by simpa using no)]; exact hW7⟩
    rintro σ H7 ⟨v8, v9, rfl, k7, s07, hW7⟩
    rw [iv_len, ivn_len, List.length_range, List.take_of_length_le (by rw [List.length_range]; omega)] at hW7
    have hW7' : H7 W = some (.lst ((ivn (row b j)).map V.int)) := hW7
    have hR7 := k7 _ _ nWR.symm hR6
    have hV7 : VecsAt K H7 ws (rowsI b j) := by
      have h6 : VecsAt K H6 ws (rowsI b j) := hV.same (s13.trans s36)
      have W1 : H1 W = none := nW
      have nw : W ∉ ws := fun m => by
        obtain ⟨i, li, e⟩ := List.mem_iff_getElem.mp m
        obtain ⟨x, _, h⟩ := hV.geta (i := i) (z := W) (by rw [List.getElem?_eq_getElem li, e])
        rw [W1] at h; cases h
      have up : ∀ {as : List Addr} {xss : List (List Int)}, VecsAt K H6 as xss → W ∉ as → VecsAt K H7 as xss := fun {as xss} => by
        induction as generalizing xss with
        | nil => cases xss <;> exact fun h _ => h
        | cons z r ih =>
          cases xss with
          | nil => exact fun h _ => h
          | cons x xs => exact fun h n => ⟨k7 _ _ (fun e => n (by rw [e]; exact List.mem_cons_self ..)) h.1, ih h.2 fun m => n (List.mem_cons_of_mem _ m)⟩
      exact up h6 nw
    have lr : (row b j).length ≤ 40 := Nat.le_trans (row_len j) (by omega)
    refine ⟨_, rfl, .inl ⟨rfl, _, SqL.of hR7⟩, _, rfl, W, ivn (row b j), rfl, SqL.of hW7', by rw [ivn_len]; omega, fun ns' Q' perm srt nQ => ?_⟩
    rw [arr_eq (row_sorted b j) perm srt]
    have s8 := same_new nQ (.lst ((ivn (row b j)).map V.int))
    have nQR : Q' ≠ R := fun z => by rw [z, hR7] at nQ; cases nQ
    refine ⟨R, _, _, rfl, rfl, s8 _ _ hR7, by rw [List.length_map, hV.len]; simp [rowsI]; exact small1000 (by omega), ?_⟩
    refine ⟨_, _, _, _, _, _, _, _, ws ++ [Q'], rfl, same_upd (s07.trans s8) nR, by rw [upd_same, List.map_append]; rfl, ?_, ?_, fun z hz => (List.mem_append.mp hz).elim (nws z) fun e => by rw [List.mem_singleton.mp e]; exact some_free0 s07 nQ⟩
    · rw [rowsI_succ]
      refine VecsAt.upd (VecsAt.snoc (K := K) (x := ivn (row b j)) upd_same (hV7.same s8)) ?_
      intro m
      rcases List.mem_append.mp m with m | m
      · exact nRw m
      · exact nQR (List.mem_singleton.mp m).symm
    · intro m
      rcases List.mem_append.mp m with m | m
      · exact nRw m
      · exact nQR (List.mem_singleton.mp m).symm
  rintro σ H1 ⟨v2, v3, v4, v5, v6, v7, v8, v9, ws, rfl, sm, hR, hV, nRw, nws⟩
  rw [show ((vs.length : Int) - (-1)).toNat = b.code.length + 1 by omega] at hV
  exact ⟨_, rfl, q H1 R ws sm nR hR hV nws⟩
end
end K15

namespace K15
open PySem PySem.Spec PyProof.Rows L2
theorem valV_drop (kvs : List (L2.Key × V)) (k j : L2.Key) : valV (dropK kvs k) j = if j = k then none else valV kvs j := by
  induction kvs with
  | nil => unfold dropK; rw [List.filter_nil, valV_nil]; split <;> rfl
  | cons p r ih =>
    unfold dropK at ih ⊢
    rw [List.filter_cons]
    by_cases c : p.1 = k
    · rw [if_neg (by simpa using c), ih]
      by_cases d : j = k
      · rw [if_pos d, if_pos d]
      · rw [if_neg d, if_neg d, valV_neg (fun z => d (z.symm.trans c))]
    · rw [if_pos (by simpa using c)]
      by_cases e : p.1 = j
      · rw [valV_pos e, valV_pos e, if_neg (fun z => c (e.trans z))]
      · rw [valV_neg e, valV_neg e, ih]
section
variable {P : Program} {w : World} {K : PySem.W.Frag} {mg : Str → Option Value} {base : Heap} {a : Ad}
def spTurned : Sp := fun vs H Q _ => ∃ (st c : Addr) (b : Bk) (p : Addr) (sl : Nat → Nat), vs = [.ref st, .ref p] ∧ StAt H st c ∧ WfB b ∧ H p = some (.dK (dl (3 + b.code.length) fun r => .int (sl r : Int))) ∧ p ≠ st ∧ p ≠ c ∧
  ∀ (H' : Hp) (q : Addr) (sl' : Nat → Option Int), Go st c H H' → H q = none → PlanAt H' b q sl' → Q (.ref q) H'
theorem ok_law_turned (T : Txt w K mg a) : FnOk P w K mg base CX0 3 a.law_turned.1 a.law_turned.2 ["state", "slots"] spTurned := by
  refine T.law_turned.F.ok sc_law_turned (fun vs H Q E h => ?_) (fun cdv A outer s H vs Q E hr h => ?_)
  · obtain ⟨_, _, _, _, _, rfl, _⟩ := h
    rfl
  obtain ⟨st, c, b, p, sl, rfl, hS, wf, hp, np1, np2, q⟩ := h
  have nd := sc_law_turned.nd
  have hu := hu_of hr
  have n37 := wf.len
  have G_law_draw := ok_law_draw (P := P) (w := w) (base := base) T
  have G_law_pick := ok_law_pick (P := P) (w := w) (base := base) T
  refine ⟨_, (pss_cons (ps_set (i := 2) nd rfl (Or.inl rfl) pe_dnewK)
  (pss_cons (ps_set (i := 3) nd rfl (Or.inl rfl) (pe_callB (call_sortedDI rfl) (by rfl) T.sorted (by decide +kernel) (pa_cons (pv 1) pa_nil)))
  (pss_cons (ps_for PassesOwn.never rfl (pi_list (pv 3)) (pg_name (i := 4) nd rfl (Or.inl rfl)) (pss_one (ps_dput hu (pv 2) (pv 4) (pe_dget hu (pv 1) (pv 4) (fun _ _ => rfl)) rfl)))
  (pss_cons (ps_if (pt_cmpR op_eq (pe_call G_law_draw (hr.mono (by omega)) rfl T.law_draw.g T.law_draw.F.kp T.law_draw.b .nil pass0 (pa_cons (pv 0) (pa_cons pe_int pa_nil))) pe_int (nomark _)) (pss_one (ps_expr (pe_dpop1 (pv 2) (pe_call G_law_pick (hr.mono (by omega)) rfl T.law_pick.g T.law_pick.F.kp T.law_pick.b .nil pass0 (pa_cons (pv 0) (pa_cons (pv 3) pa_nil))) ⟨rfl, rfl, rfl, rfl⟩))) (pss_one (ps_dput hu (pv 2) (pe_call G_law_pick (hr.mono (by omega)) rfl T.law_pick.g T.law_pick.F.kp T.law_pick.b .nil pass0 (pa_cons (pv 0) (pa_cons (pv 3) pa_nil))) (pe_dget hu (pv 1) (pe_call G_law_pick (hr.mono (by omega)) rfl T.law_pick.g T.law_pick.F.kp T.law_pick.b .nil pass0 (pa_cons (pv 0) (pa_cons (pv 3) pa_nil))) (fun _ _ => rfl)) rfl)))
  (pss_one (ps_ret (pv 2))))))), ?_⟩
  refine fun O nO => ?_
  have s1 := same_new nO (.dK [])
  have ek : (dl (3 + b.code.length) fun r => V.int (sl r : Int)).map (·.1) = (ivn (List.range (3 + b.code.length))).map (Sum.inl : Int → L2.Key) := by
    unfold dl ivn
    rw [List.map_map, List.map_map]
    rfl
  refine ⟨_, rfl, p, _, ivn (List.range (3 + b.code.length)), rfl, .inl (s1 _ _ hp), ek, by rw [ivn_len, List.length_range]; omega, fun ns N perm srt nN => ?_⟩
  rw [arr_eq List.pairwise_lt_range perm srt]
  have s2 := s1.trans (same_new nN (.lst ((ivn (List.range (3 + b.code.length))).map V.int)))
  have nOst := St.new hS nO
  have nNst := St.new (hS.keep s1) nN
  have hN2 := upd_same (H := upd H O (.dK [])) (a := N) (o := .lst ((ivn (List.range (3 + b.code.length))).map V.int))
  have hO2 := same_new nN (.lst ((ivn (List.range (3 + b.code.length))).map V.int)) _ _ (upd_same (H := H) (a := O) (o := .dK []))
  have nON : N ≠ O := fun z => by rw [z, upd_same] at nN; cases nN
  refine ⟨_, rfl, N, rfl, ⟨_, SqL.of hN2⟩, for_list (K := K) (a := N) (xs := (ivn (List.range (3 + b.code.length))).map V.int) (fun u σ H3 => ∃ v4 : Option V, σ = [some (.ref st), some (.ref p), some (.ref O), some (.ref N), v4] ∧ Same H H3 ∧ H3 N = some (.lst ((ivn (List.range (3 + b.code.length))).map V.int)) ∧ H3 O = some (.dK (dl u fun r => .int (sl r : Int)))) ⟨none, rfl, s2, hN2, hO2⟩ (fun u σ H3 _ h => by obtain ⟨_, _, _, h3, _⟩ := h; exact SqL.of h3) ?_ ?_⟩
  · rintro u z σ H3 hz ⟨v4, rfl, s3, hN3, hO3⟩
    have lu : u < 3 + b.code.length := by
      have := (List.getElem?_eq_some_iff.mp hz).1
      rw [List.length_map, ivn_len, List.length_range] at this
      exact this
    obtain rfl : V.int (u : Int) = z := by
      unfold ivn at hz
      rw [List.getElem?_map, List.getElem?_map, List.getElem?_range lu] at hz
      exact Option.some.inj hz
    refine ⟨_, rfl, _, rfl, p, .int (sl u : Int), rfl, .inl ⟨_, .inl (u : Int), .inl (s3 _ _ hp), rfl, (dl_get (f := fun r => V.int (sl r : Int)) lu).symm⟩, _, rfl, _, rfl, O, _, rfl, DPut.k (k := Sum.inl (u : Int)) hO3 (by rw [dl_len]; exact small1000 (by omega)), some (.int (u : Int)), rfl, same_upd s3 nO, by rw [upd_ne nON]; exact hN3, ?_⟩
    rw [upd_same, dl_new]
    refine congrArg (fun z => some (HO.dK z)) (dl_congr fun r hr => ?_)
    by_cases d : r = u
    · rw [if_pos d, d]
    · rw [if_neg d]
  rintro σ H3 ⟨v4, rfl, s3, hN3, hO3⟩
  rw [List.length_map, ivn_len, List.length_range] at hO3
  have g3 := Go.same hS s3
  have keep : ∀ {z : Addr} {o : HO} {G G' : Hp}, z ≠ st → z ≠ c → Go st c G G' → G z = some o → G' z = some o := fun n1 n2 g e => g.1 _ _ n1 n2 e
  have lN : 0 < ((ivn (List.range (3 + b.code.length))).map V.int).length ∧ ((ivn (List.range (3 + b.code.length))).map V.int).length ≤ 1000 := by rw [List.length_map, ivn_len, List.length_range]; omega
  have mem : ∀ {x : V}, x ∈ (ivn (List.range (3 + b.code.length))).map V.int → ∃ r : Nat, x = .int (r : Int) ∧ r < 3 + b.code.length := fun {x} m => by
    unfold ivn at m
    rw [List.map_map] at m
    obtain ⟨r, hr, rfl⟩ := List.mem_map.mp m
    exact ⟨r, rfl, List.mem_range.mp hr⟩
  refine ⟨_, rfl, st, c, 3, rfl, g3.2, by decide, by decide, fun H4 n g4 _ _ => ?_⟩
  have hN4 := keep nNst.1 nNst.2 g4 hN3
  have hO4 := keep nOst.1 nOst.2 g4 hO3
  have hp4 := keep np1 np2 g4 (s3 _ _ hp)
  have g04 := g3.trans g4
  refine ⟨rfl, _, rfl, ?_⟩
  refine ite2 (fun _ => ?_) (fun _ => ?_)
  · refine ⟨_, rfl, O, rfl, .inl ⟨_, .inl hO4⟩, _, rfl, _, rfl, st, c, N, _, rfl, g4.2, hN4, nNst.1, nNst.2, lN.1, lN.2, fun H5 x g5 hx => ?_⟩
    obtain ⟨r, rfl, hr3⟩ := mem hx
    have hO5 := keep nOst.1 nOst.2 g5 hO4
    refine ⟨_, .inl (r : Int), _, hO5, rfl, dl_get hr3, ?_⟩
    refine ⟨_, rfl, q _ O (fun u => if u = r then none else some (sl u : Int)) ((g04.trans g5).put nO nOst) nO ⟨_, upd_same, ?_, fun u hu' => ?_⟩⟩
    · have : (dropK (dl (3 + b.code.length) fun r => V.int (sl r : Int)) (.inl (r : Int))).length ≤ (dl (3 + b.code.length) fun r => V.int (sl r : Int)).length := List.length_filter_le _ _
      rw [dl_len] at this
      omega
    · rw [valV_drop, dl_get hu']
      dsimp only
      by_cases d : u = r
      · rw [if_pos (by rw [d]), if_pos d]; rfl
      · rw [if_neg (fun z => d (by have := Sum.inl.inj z; omega)), if_neg d]; rfl
  · refine ⟨_, rfl, _, rfl, _, rfl, st, c, N, _, rfl, g4.2, hN4, nNst.1, nNst.2, lN.1, lN.2, fun H5 x g5 hx => ?_⟩
    obtain ⟨r, rfl, hr3⟩ := mem hx
    have hp5 := keep np1 np2 g5 hp4
    have hN5 := keep nNst.1 nNst.2 g5 hN4
    have hO5 := keep nOst.1 nOst.2 g5 hO4
    refine ⟨p, .int (sl r : Int), rfl, .inl ⟨_, .inl (r : Int), .inl hp5, rfl, (dl_get (f := fun r => V.int (sl r : Int)) hr3).symm⟩, _, rfl, _, rfl, _, rfl, st, c, N, _, rfl, g5.2, hN5, nNst.1, nNst.2, lN.1, lN.2, fun H6 x2 g6 hx2 => ?_⟩
    obtain ⟨r2, rfl, hr4⟩ := mem hx2
    have hO6 := keep nOst.1 nOst.2 g6 hO5
    refine ⟨O, _, rfl, DPut.k (k := Sum.inl (r2 : Int)) hO6 (by rw [dl_len]; exact small1000 (by omega)), ?_⟩
    refine ⟨_, rfl, q _ O (fun u => if u = r2 then some (sl r : Int) else some (sl u : Int)) (((g04.trans g5).trans g6).put nO nOst) nO ⟨_, upd_same, ?_, fun u hu' => ?_⟩⟩
    · have := length_putK (dl (3 + b.code.length) fun r => V.int (sl r : Int)) (.inl (r2 : Int)) (.int (sl r : Int))
      rw [dl_len] at this
      omega
    · rw [valV_put, dl_get hu']
      dsimp only
      by_cases d : u = r2
      · rw [if_pos (by rw [d]), if_pos d]; rfl
      · rw [if_neg (fun z => d (by have := Sum.inl.inj z; omega)), if_neg d]; rfl
end
end K15

namespace K15
open PySem PySem.Spec PyProof.Rows L2
theorem BlkAt.weak {X Y : List Addr} {H : Hp} {nm : Str} {b : Bk} {v : V} (h : BlkAt X H nm b v) (s : ∀ z, z ∈ Y → z ∈ X) : BlkAt Y H nm b v := by
  obtain ⟨t, cp, rp, pv, nv, vs, e, h1, ⟨a1, u1, u2, e1, g1, m1, ⟨a2, e2, g2, m2⟩, ⟨a3, e3, g3, m3⟩⟩, ⟨a4, e4, g4, m4⟩, h4, h5, h6, n1, n2, n3⟩ := h
  exact ⟨t, cp, rp, pv, nv, vs, e, h1, ⟨a1, u1, u2, e1, g1, fun z => m1 (s _ z), ⟨a2, e2, g2, fun z => m2 (s _ z)⟩, ⟨a3, e3, g3, fun z => m3 (s _ z)⟩⟩, ⟨a4, e4, g4, fun z => m4 (s _ z)⟩, h4, h5.weak s, h6, fun z => n1 (s _ z), fun z => n2 (s _ z), fun z => n3 (s _ z)⟩
def inp (xss : List (List Int)) : PyData := .list (xss.map nsd)
theorem inp_dp {K : PySem.W.Frag} {H : Hp} {p : Addr} {as : List Addr} {xss : List (List Int)} (hp : SqL K H p (as.map V.ref)) (hv : VecsAt K H as xss) : Dp K H (.ref p) (inp xss) := by
  refine .lst hp ?_
  clear hp
  induction as generalizing xss with
  | nil =>
    cases xss with
    | nil => exact .nil
    | cons x t => exact hv.elim
  | cons b r ih =>
    cases xss with
    | nil => exact hv.elim
    | cons x t => exact .cons (nsd_dp (SqL.of hv.1)) (ih hv.2)
theorem inp_lay (xss : List (List Int)) : (inp xss).canLay0 = true := by
  show PyData.canLayAll0 (xss.map nsd) = true
  induction xss with
  | nil => rfl
  | cons x r ih =>
    show ((nsd x).canLay0 && PyData.canLayAll0 (r.map nsd)) = true
    rw [nsd_lay, ih]
    rfl
theorem inp_dep (xss : List (List Int)) : (inp xss).depth ≤ 2 := by
  have : PyData.depthAll (xss.map nsd) ≤ 1 := by
    induction xss with
    | nil => exact Nat.zero_le _
    | cons x r ih =>
      show max (nsd x).depth (PyData.depthAll (r.map nsd)) ≤ 1
      have := nsd_dep x
      omega
  show PyData.depthAll (xss.map nsd) + 1 ≤ 2
  omega
theorem inp_shaped (xss : List (List Int)) : SeqAt.shaped (inp xss) = true := by
  unfold SeqAt.shaped
  rw [inp_lay, decide_eq_true (Nat.le_trans (inp_dep xss) (by decide))]
  rfl
def prD (x y : Int) : PyData := .tuple [.int x, .int y]
theorem prD_shaped (x y : Int) : SeqAt.shaped (prD x y) = true := by
  unfold SeqAt.shaped
  have e1 : (prD x y).canLay0 = true := rfl
  have e2 : (prD x y).depth ≤ 60 := by show max 0 (max 0 0) + 1 ≤ 60; decide
  rw [e1, decide_eq_true (Nat.le_trans e2 (by decide))]
  rfl
theorem prD_dp {K : PySem.W.Frag} {H : Hp} {t : Addr} {x y : Int} (h : H t = some (.tup [.int x, .int y])) : Dp K H (.ref t) (prD x y) := .tup (.inl (.inl h)) (.cons (.int _) (.cons (.int _) .nil))
/-- the sizes of the rows -/
def lensI (b : Bk) : List Int := (List.range (b.code.length + 1)).map fun j => ((row b j).length : Int)
theorem lensI_len (b : Bk) : (lensI b).length = b.code.length + 1 := by simp [lensI]
theorem lensI_get {b : Bk} {j : Nat} (h : j < b.code.length + 1) : (lensI b)[j]? = some ((row b j).length : Int) := by
  unfold lensI
  rw [List.getElem?_map, List.getElem?_range h] <;> rfl
theorem lensI_mem {b : Bk} {x : Int} : x ∈ lensI b ↔ ∃ j, j ≤ b.code.length ∧ x = ((row b j).length : Int) := by
  unfold lensI
  rw [List.mem_map]
  constructor
  · rintro ⟨j, hj, rfl⟩; exact ⟨j, by have := List.mem_range.mp hj; omega, rfl⟩
  · rintro ⟨j, hj, rfl⟩; exact ⟨j, List.mem_range.mpr (by omega), rfl⟩
theorem most_is {b : Bk} {m : Nat} {sl : Nat → Nat} (p : PlanOk b m sl) {x : Int} (h1 : x ∈ lensI b) (h2 : ∀ y, y ∈ lensI b → y ≤ x) : x = (m : Int) := by
  obtain ⟨j, hj, ej, up⟩ := p.most
  obtain ⟨i, hi, rfl⟩ := lensI_mem.mp h1
  have := h2 _ (lensI_mem.mpr ⟨j, hj, rfl⟩)
  have := up i hi
  omega
theorem best_is {b : Bk} {m : Nat} {sl : Nat → Nat} (p : PlanOk b m sl) {M I : Int} (g : Best b (b.code.length + 2) M I) : M = (m : Int) ∧ I = (((lensI b).idxOf (m : Int) : Nat) : Int) - 1 := by
  obtain ⟨j0, hj0, ej0, up0⟩ := p.most
  rcases g with ⟨z, _⟩ | ⟨j, h1, h2, rfl, rfl, up, lo⟩
  · omega
  have em : ((row b j).length : Int) = (m : Int) := by
    have := up j0 (by omega) hj0
    have := up0 j h2
    omega
  refine ⟨em, ?_⟩
  have : (lensI b).idxOf (m : Int) = j := by
    have hl : j < (lensI b).length := by rw [lensI_len]; omega
    refine (List.findIdx_eq hl).mpr ⟨?_, fun i hi => ?_⟩
    · have e := (List.getElem?_eq_some_iff.mp (lensI_get (b := b) (j := j) (by omega))).2
      rw [e, em]
      exact beq_self_eq_true _
    · have e := (List.getElem?_eq_some_iff.mp (lensI_get (b := b) (j := i) (by omega))).2
      rw [e]
      have := lo i hi
      exact beq_eq_false_iff_ne.mpr (by omega)
  rw [this]
end K15

namespace K15
open PySem PySem.Spec PyProof.Rows L2
section
variable {P : Program} {w : World} {K : PySem.W.Frag} {mg : Str → Option Value} {base : Heap} {a : Ad}
def spLaw (K : PySem.W.Frag) : Sp := fun vs H Q _ => ∃ (p : Addr) (ns : List Int), vs = [.ref p] ∧ SqL K H p (ns.map V.int) ∧ ns.length ≤ 63 ∧ ∀ H', Q (.bl true) H'
theorem ok_law (T : Txt w K mg a) : GX.FnG P w K mg base CX0 6 a.law.1 a.law.2 ["script"] (spLaw K) := by
  refine GX.fnG T.law.F sc_law (fun vs H Q E h => ?_) (fun cdv A outer s H vs Q E hg hr h => ?_)
  · obtain ⟨p, ns, rfl, _⟩ := h
    rfl
  obtain ⟨p, ns, rfl, hS, h63, q⟩ := h
  have nd := sc_law.nd
  have hu := hu_of hr
  have G_law_state := ok_law_state (P := P) (w := w) (base := base) T
  have G_law_pick := ok_law_pick (P := P) (w := w) (base := base) T
  have G_law_blocks := ok_law_blocks (P := P) (w := w) (base := base) T
  have G_law_live := ok_law_live (P := P) (w := w) (base := base) T
  have G_live := ok_live (P := P) (w := w) (base := base) T
  have G_plan := ok_plan (P := P) (w := w) (base := base) T
  have G_law_fits := ok_law_fits (P := P) (w := w) (base := base) T
  have G_plan_right := ok_plan_right (P := P) (w := w) (base := base) T
  have G_fewest := ok_fewest (P := P) (w := w) (base := base) T
  have G_law_turned := ok_law_turned (P := P) (w := w) (base := base) T
  suffices hh : ∃ t, PSs (cxOf CX0 P w K mg base ["script", "state", "block", "before", "due", "own", "most", "first", "k", "turned", "told", "row", "number"] "law" (defScope s_law) a.law.1 cdv A outer s H E).nox (defBody s_law) t ∧ t { nx := fun _ H' => Q .non H', rt := Q } (start ["script", "state", "block", "before", "due", "own", "most", "first", "k", "turned", "told", "row", "number"] [V.ref p]) H by
    obtain ⟨t, ht, hq⟩ := hh
    exact ⟨t, ht.nox, hq⟩
  refine ⟨_, (pss_cons (ps_set (i := 1) nd rfl (Or.inl rfl) (pe_call G_law_state (hr.mono (by omega)) rfl T.law_state.g T.law_state.F.kp T.law_state.b .nil pass0 (pa_cons (pv 0) pa_nil)))
  (pss_cons (ps_set (i := 2) nd rfl (Or.inl rfl) (pe_call G_law_pick (hr.mono (by omega)) rfl T.law_pick.g T.law_pick.F.kp T.law_pick.b .nil pass0 (pa_cons (pv 1) (pa_cons (pe_call G_law_blocks (hr.mono (by omega)) rfl T.law_blocks.g T.law_blocks.F.kp T.law_blocks.b .nil pass0 (pa_cons (pv 1) pa_nil)) pa_nil))))
  (pss_cons (ps_set (i := 3) nd rfl (Or.inl rfl) (pe_callB (GX.call_reprD hg hr.units) (by rfl) T.repr (by decide +kernel) (pa_cons (pv 2) pa_nil)))
  (pss_cons (ps_set (i := 4) nd rfl (Or.inl rfl) (pe_call G_law_live (hr.mono (by omega)) rfl T.law_live.g T.law_live.F.kp T.law_live.b .nil pass0 (pa_cons (pv 2) pa_nil)))
  (pss_cons (ps_if (pt_cmpR (op_neD hr.units) (pe_call G_live (hr.mono (by omega)) rfl T.live.g T.live.F.kp T.live.b .nil pass0 (pa_cons (pv 2) pa_nil)) (pv 4) (nomark _)) (pss_one (ps_ret pe_bl)) pss_nil)
  (pss_cons (ps_set (i := 5) nd rfl (Or.inr rfl) (pe_call G_plan (hr.mono (by omega)) rfl T.plan.g T.plan.F.kp T.plan.b .nil pass0 (pa_cons (pv 2) pa_nil)))
  (pss_cons (ps_set (i := 6) nd rfl (Or.inl rfl) (pe_callB (cr_max rfl) (by rfl) T.max (by decide +kernel) (pa_cons (pe_lc (own := [("row", 11)]) (g := gName 11) (tt := tYes) rfl nd (pi_list (pv 4)) (blkOk_by (N := ["script", "state", "block", "before", "due", "own", "most", "first", "k", "turned", "told", "row", "number"]) (sc := defScope s_law) (by decide +kernel)) (fun _ _ _ _ _ => (pg_name (i := 11) nd rfl (Or.inl rfl))) (fun _ _ _ _ _ => pts_nil) (fun _ _ _ _ _ => (pe_callB (call_lenK (K := K) rfl) (by rfl) T.len PySem.boot_len (pa_cons (pv 11) pa_nil)))) pa_nil)))
  (pss_cons (ps_set (i := 7) nd rfl (Or.inl rfl) (pe_op op_sub (pe_bm PySem.F.plainAttrs_list PySem.F.slot_list_index PySem.F.type_list_index IXL.mt_indexI (pe_lc (own := [("row", 11)]) (g := gName 11) (tt := tYes) rfl nd (pi_list (pv 4)) (blkOk_by (N := ["script", "state", "block", "before", "due", "own", "most", "first", "k", "turned", "told", "row", "number"]) (sc := defScope s_law) (by decide +kernel)) (fun _ _ _ _ _ => (pg_name (i := 11) nd rfl (Or.inl rfl))) (fun _ _ _ _ _ => pts_nil) (fun _ _ _ _ _ => (pe_callB (call_lenK (K := K) rfl) (by rfl) T.len PySem.boot_len (pa_cons (pv 11) pa_nil)))) (pa_cons (pv 6) pa_nil)) pe_int))
  (pss_cons (ps_if (PW.pt (pw_or (pt_not (pt_val (pe_callB call_isi (by rfl) T.isinstance (by decide +kernel) (pa_cons (pv 5) (pa_cons (pe_bltn (v := .ty "dict") rfl T.dict (by decide +kernel) rfl) pa_nil))))) (pw_or (pt_not (pt_val (pe_call G_law_fits (hr.mono (by omega)) rfl T.law_fits.g T.law_fits.F.kp T.law_fits.b .nil pass0 (pa_cons (pv 4) (pa_cons (pv 5) pa_nil))))) (pw_or1 (pt_cmpR op_isnot_bl (pe_call G_plan_right (hr.mono (by omega)) rfl T.plan_right.g T.plan_right.F.kp T.plan_right.b .nil pass0 (pa_cons (pv 2) (pa_cons (pv 5) pa_nil))) pe_bl (nomark _)))))) (pss_one (ps_ret pe_bl)) pss_nil)
  (pss_cons (ps_if (PW.pt (pw_or (pt_cmpR (op_neD hr.units) (pe_call G_fewest (hr.mono (by omega)) rfl T.fewest.g T.fewest.F.kp T.fewest.b .nil pass0 (pa_cons (pv 2) pa_nil)) (pe_tup (pa_cons (pv 6) (pa_cons (pv 7) pa_nil))) (nomark _)) (pw_or1 (pt_cmpR (op_neD hr.units) (pe_callB (cr_sortedSet rfl) (by rfl) T.sorted (by decide +kernel) (pa_cons (pe_callTy (HSI.cr_setI rfl) (by rfl) T.set (by decide +kernel) (pa_cons (pe_lc (own := [("number", 12)]) (g := gName 12) (tt := tYes) rfl nd (pi_list (pe_callB (call_sortedDI rfl) (by rfl) T.sorted (by decide +kernel) (pa_cons (pv 5) pa_nil))) (blkOk_by (N := ["script", "state", "block", "before", "due", "own", "most", "first", "k", "turned", "told", "row", "number"]) (sc := defScope s_law) (by decide +kernel)) (fun _ _ _ _ _ => (pg_name (i := 12) nd rfl (Or.inl rfl))) (fun _ _ _ _ _ => pts_nil) (fun _ _ _ _ _ => (pe_dget hu (pv 5) (pv 12) (fun _ _ => rfl)))) pa_nil)) pa_nil)) (pe_lc (own := [("k", 8)]) (g := gName 8) (tt := tYes) rfl nd (pi_range1 rfl T.range (pa_cons (pv 6) pa_nil)) (blkOk_by (N := ["script", "state", "block", "before", "due", "own", "most", "first", "k", "turned", "told", "row", "number"]) (sc := defScope s_law) (by decide +kernel)) (fun _ _ _ _ _ => (pg_name (i := 8) nd rfl (Or.inl rfl))) (fun _ _ _ _ _ => pts_nil) (fun _ _ _ _ _ => (pv 8))) (nomark _))))) (pss_one (ps_ret pe_bl)) pss_nil)
  (pss_cons (ps_for PassesOwn.never rfl (pi_range1 rfl T.range (pa_cons pe_int pa_nil)) (pg_name (i := 8) nd rfl (Or.inl rfl)) (pss_cons (ps_set (i := 9) nd rfl (Or.inl rfl) (pe_call G_law_turned (hr.mono (by omega)) rfl T.law_turned.g T.law_turned.F.kp T.law_turned.b .nil pass0 (pa_cons (pv 1) (pa_cons (pv 5) pa_nil))))
  (pss_cons (ps_set (i := 10) nd rfl (Or.inl rfl) (pe_call G_plan_right (hr.mono (by omega)) rfl T.plan_right.g T.plan_right.F.kp T.plan_right.b .nil pass0 (pa_cons (pv 2) (pa_cons (pv 9) pa_nil))))
  (pss_one (ps_if (PW.pt (pw_or (pt_not (pt_val (pe_callB call_isi (by rfl) T.isinstance (by decide +kernel) (pa_cons (pv 10) (pa_cons (pe_bltn (v := .ty "bool") rfl T.bool (by decide +kernel) rfl) pa_nil))))) (pw_or1 (pt_cmpR op_ne (pv 10) (pe_call G_law_fits (hr.mono (by omega)) rfl T.law_fits.g T.law_fits.F.kp T.law_fits.b .nil pass0 (pa_cons (pv 4) (pa_cons (pv 9) pa_nil))) (nomark _))))) (pss_one (ps_ret pe_bl)) pss_nil)))))
  (pss_one (ps_ret (pe_cmpR op_eq (pe_callB (GX.call_reprD hg hr.units) (by rfl) T.repr (by decide +kernel) (pa_cons (pv 2) pa_nil)) (pv 3) (nomark _))))))))))))))), ?_⟩
  refine ⟨_, rfl, p, ns, rfl, hS, h63, fun H1 st c s1 nst nc S1 => ?_⟩
  refine ⟨_, rfl, _, rfl, st, c, rfl, S1, fun H2 bq v1 v2 b1 b2 g2 hbq nbq hb1 hb2 ok1 ok2 => ?_⟩
  have nb2 : bq ≠ st ∧ bq ≠ c := ⟨fun z => nbq (by rw [z]; simp), fun z => nbq (by rw [z]; simp)⟩
  refine ⟨st, c, bq, [v1, v2], rfl, g2.2, hbq, nb2.1, nb2.2, by simp, by simp, fun H3 x g3 hx => ?_⟩
  obtain ⟨nm, b, hB, wf, ok, hw⟩ : ∃ (nm : Str) (b : Bk), BlkAt [st, c] H3 nm b x ∧ WfB b ∧ BlOk b ∧ nm ∈ words := by
    simp only [List.mem_cons, List.not_mem_nil, or_false] at hx
    rcases hx with rfl | rfl
    · exact ⟨"main", b1, hb1.fr (Fr.gg g3), main_wf ok1, main_ok ok1, by decide +kernel⟩
    · exact ⟨"other", b2, hb2.fr (Fr.gg g3), bk_wf ok2, bk_ok ok2, by decide +kernel⟩
  have n37 := wf.len
  have SH := Bk.shw hw ok
  obtain ⟨t, hxt⟩ : ∃ t, x = .ref t := by obtain ⟨t, _, _, _, _, _, e, _⟩ := hB; exact ⟨t, e⟩
  subst hxt
  have w0 : ∀ z, z ∈ ([] : List Addr) → z ∈ [st, c] := fun z h => absurd h List.not_mem_nil
  have B0 : ∀ {H' : Hp}, BlkAt [st, c] H' nm b (.ref t) → BlkAt [] H' nm b (.ref t) := fun h => h.weak w0
  have S3 := g3.2
  refine ⟨_, rfl, t, b.d nm, rfl, hB.dp ok, SH.ok, SH.nd, Nat.le_trans SH.dp (by decide), Nat.le_trans SH.ln (by decide), ?_⟩
  -- what is due
  refine ⟨_, rfl, nm, b, _, rfl, B0 hB, wf, fun H4 dq ws s4 nd4 hdq hV nws => ?_⟩
  have hB4 := hB.fr (Fr.of s4)
  refine ⟨_, rfl, nm, b, _, rfl, B0 hB4, wf, fun H5 lq ws5 s5 n5 hlq hV5 => ?_⟩
  refine ⟨_, rfl, inp (rowsI b (b.code.length + 1)), inp (rowsI b (b.code.length + 1)), inp_dp (SqL.of hlq) hV5, inp_dp (SqL.of (s5 _ _ hdq)) (hV.same s5), inp_shaped _, inp_shaped _, _, rfl, ?_⟩
  rw [SeqAt.eqv_refl _ (inp_lay _)]
  refine ifF rfl ?_
  have hB5 := hB4.fr (Fr.of s5)
  refine ⟨_, rfl, nm, b, _, rfl, B0 hB5, wf, fun H6 oq m sl s6 n6 hoq hpl => ?_⟩
  have s36 := (s4.trans s5).trans s6
  have s46 := s5.trans s6
  have hdq6 := s46 _ _ hdq
  have hV6 := hV.same s46
  have ow : ws.length = b.code.length + 1 := by rw [hV.len]; simp [rowsI]
  -- the greatest row
  have lens : ∀ {G : Hp} {D : Addr}, Same H6 G → (upd G D (.lst [])) D = some (.lst []) := fun _ => upd_same
  have turn : ∀ {i : Nat} {y : V}, (ws.map V.ref)[i]? = some y → ∃ w', y = .ref w' ∧ i < b.code.length + 1 ∧ H6 w' = some (.lst (iv (ivn (row b i)))) := fun {i y} hy => by
    rw [List.getElem?_map] at hy
    cases e : ws[i]? with
    | none => rw [e] at hy; cases hy
    | some w' =>
      rw [e] at hy
      obtain ⟨x, ex, hw'⟩ := hV6.geta e
      have lt := (List.getElem?_eq_some_iff.mp e).1
      unfold rowsI at ex
      rw [List.getElem?_map, List.getElem?_range (by omega)] at ex
      obtain rfl := Option.some.inj ex
      exact ⟨w', (Option.some.inj hy).symm, by omega, hw'⟩
  refine ⟨_, rfl, dq, rfl, ⟨_, SqL.of hdq6⟩, fun D nD => lc_it (walk_list (K := K) (a := dq) (xs := ws.map V.ref)) (fun i G => Same H6 G ∧ G D = some (.lst (iv ((lensI b).take i)))) ⟨same_new nD _, upd_same⟩ (fun i G _ h => SqL.of (h.1 _ _ hdq6)) ?_ ?_⟩
  · rintro i y Hx G hi ⟨sm, hD⟩ ⟨rfl, hy⟩
    obtain ⟨w', rfl, li, hw'⟩ := turn hy
    refine ⟨rfl, _, rfl, w', _, rfl, .inl (SqL.of (sm _ _ hw')), tick sm nD hD (fun _ _ e => e) ?_ ?_⟩
    · rw [List.take_add_one, lensI_get li, iv_len, ivn_len]; simp [iv]
    · rw [iv_len, List.length_take, lensI_len]; unfold NN; omega
  rintro H7 ⟨s7, hD7⟩
  rw [List.length_map, ow, ← lensI_len b, List.take_length] at hD7
  refine ⟨D, lensI b, rfl, SqL.of hD7, by rw [lensI_len]; omega, fun mx h1 h2 => ?_⟩
  obtain rfl := most_is hpl h1 h2
  have hdq7 := s7 _ _ hdq6
  refine ⟨_, rfl, dq, rfl, ⟨_, SqL.of hdq7⟩, fun D2 nD2 => lc_it (walk_list (K := K) (a := dq) (xs := ws.map V.ref)) (fun i G => Same H7 G ∧ G D2 = some (.lst (iv ((lensI b).take i)))) ⟨same_new nD2 _, upd_same⟩ (fun i G _ h => SqL.of (h.1 _ _ hdq7)) ?_ ?_⟩
  · rintro i y Hx G hi ⟨sm, hD⟩ ⟨rfl, hy⟩
    obtain ⟨w', rfl, li, hw'⟩ := turn hy
    refine ⟨rfl, _, rfl, w', _, rfl, .inl (SqL.of (sm _ _ (s7 _ _ hw'))), tick sm nD2 hD (fun _ _ e => e) ?_ ?_⟩
    · rw [List.take_add_one, lensI_get li, iv_len, ivn_len]; simp [iv]
    · rw [iv_len, List.length_take, lensI_len]; unfold NN; omega
  rintro H8 ⟨s8, hD8⟩
  rw [List.length_map, ow, ← lensI_len b, List.take_length] at hD8
  refine ⟨.inl ⟨rfl, _, SqL.of hD8⟩, _, rfl, D2, lensI b, (m : Int), rfl, rfl, hD8, h1, _, _, rfl, rfl, ?_⟩
  -- the program's own plan
  have s68 := s7.trans s8
  have hoq8 := s68 _ _ hoq
  have hB8 := (hB5.fr (Fr.of s6)).fr (Fr.of s68)
  have hdq8 := s8 _ _ hdq7
  have hV8 := hV6.same s68
  have plan8 : ∀ {G : Hp}, Same H8 G → PlanAt G b oq (fun r => some (sl r : Int)) := fun {G} sm => ⟨_, sm _ _ hoq8, by rw [dl_len]; omega, fun r hr => by rw [dl_get hr]; rfl⟩
  refine ⟨_, rfl, _, _, _, _, _, rfl, ClsV.ty "dict", .base (.dK hoq8), kit_ty (r := true) (by decide +kernel), _, rfl, ?_⟩
  refine ifF rfl ?_
  refine ⟨_, rfl, _, rfl, b, dq, oq, ws, _, rfl, wf, hdq8, hV8, plan8 (fun _ _ e => e), fun H9 r9 s9 i9 => ⟨_, rfl, ?_⟩⟩
  obtain rfl := i9.mpr hpl.right
  refine ifF rfl ?_
  have hB9 := hB8.fr (Fr.of s9)
  refine ⟨_, rfl, _, rfl, nm, b, _, oq, _, rfl, B0 hB9, wf, plan8 s9, fun HA rA sA iA => ⟨_, _, rfl, rfl, _, rfl, ?_⟩⟩
  obtain rfl := iA.mpr hpl.right
  refine ifF rfl ?_
  have hBA := hB9.fr (Fr.of sA)
  have s8A := s9.trans sA
  -- the fewest slots
  refine ⟨_, rfl, nm, b, _, rfl, B0 hBA, wf, fun HB fp M I sB hfp best => ?_⟩
  obtain ⟨rfl, rfl⟩ := best_is hpl best
  refine ⟨_, rfl, _, rfl, (by show 2 ≤ sizeLine; decide), fun tt ntt => ?_⟩
  have sC := same_new ntt (.tup [V.int (m : Int), V.int (((lensI b).idxOf (m : Int) : Nat) - 1)])
  refine ⟨prD (m : Int) (((lensI b).idxOf (m : Int) : Nat) - 1), prD (m : Int) (((lensI b).idxOf (m : Int) : Nat) - 1), prD_dp (sC _ _ hfp), prD_dp upd_same, prD_shaped _ _, prD_shaped _ _, _, rfl, ?_⟩
  rw [SeqAt.eqv_refl _ (show (prD _ _).canLay0 = true from rfl)]
  refine ifF rfl ?_
  have s8C := (s8A.trans sB).trans sC
  have hoqC := s8C _ _ hoq8
  have ek : (dl (3 + b.code.length) fun r => V.int (sl r : Int)).map (·.1) = (ivn (List.range (3 + b.code.length))).map (Sum.inl : Int → L2.Key) := by
    unfold dl ivn
    rw [List.map_map, List.map_map]
    rfl
  refine ⟨_, rfl, oq, _, ivn (List.range (3 + b.code.length)), rfl, .inl hoqC, ek, by rw [ivn_len, List.length_range]; omega, fun ns' N' perm srt nN' => ?_⟩
  rw [arr_eq List.pairwise_lt_range perm srt]
  refine ⟨N', rfl, ⟨_, SqL.of upd_same⟩, fun D3 nD3 => lc_it (walk_list (K := K) (a := N') (xs := (ivn (List.range (3 + b.code.length))).map V.int)) (fun i G => Same (upd (upd HB tt (.tup [V.int (m : Int), V.int (((lensI b).idxOf (m : Int) : Nat) - 1)])) N' (.lst ((ivn (List.range (3 + b.code.length))).map V.int))) G ∧ G D3 = some (.lst (iv (ivn ((List.range i).map sl))))) ⟨same_new nD3 _, upd_same⟩ (fun i G _ h => SqL.of (h.1 _ _ upd_same)) ?_ ?_⟩
  · rintro i y Hx G hi ⟨sm, hD⟩ ⟨rfl, hy⟩
    rw [List.length_map, ivn_len, List.length_range] at hi
    obtain rfl : V.int (i : Int) = y := by
      unfold ivn at hy
      rw [List.getElem?_map, List.getElem?_map, List.getElem?_range hi] at hy
      exact Option.some.inj hy
    have hoqG := sm _ _ (same_new nN' (.lst ((ivn (List.range (3 + b.code.length))).map V.int)) _ _ hoqC)
    refine ⟨rfl, _, rfl, _, rfl, oq, .int (sl i : Int), rfl, .inl ⟨_, .inl (i : Int), .inl hoqG, rfl, (dl_get (f := fun r => V.int (sl r : Int)) hi).symm⟩, tick sm nD3 hD (fun _ _ e => e) ?_ ?_⟩
    · rw [List.range_succ, List.map_append, ivn_app]; simp [iv, ivn]
    · rw [iv_len, ivn_len, List.length_map, List.length_range]; unfold NN; omega
  rintro HD ⟨sD, hD3⟩
  rw [List.length_map, ivn_len, List.length_range] at hD3
  have lS : (ivn ((List.range (3 + b.code.length)).map sl)).length = 3 + b.code.length := by rw [ivn_len, List.length_map, List.length_range]
  refine ⟨D3, ivn ((List.range (3 + b.code.length)).map sl), rfl, SqL.of hD3, by rw [lS]; exact Nat.lt_of_le_of_lt (show _ ≤ 100 by omega) (by decide), fun sp cn nsp hcn => ?_⟩
  rw [lS] at hcn
  refine ⟨sp, _, cn, rfl, upd_same, by omega, fun ys yq pw mem len nyq => ?_⟩
  have sE := (same_new nsp (SetO w sp (fun j => decide (j ∈ ivn ((List.range (3 + b.code.length)).map sl))) cn)).trans (same_new nyq (.lst (ys.map V.int)))
  have hyq := upd_same (H := upd HD sp (SetO w sp (fun j => decide (j ∈ ivn ((List.range (3 + b.code.length)).map sl))) cn)) (a := yq) (o := .lst (ys.map V.int))
  have eys : ys = ivn (List.range m) := by
    have nd1 : ys.Nodup := pw.imp fun {x y} h z => by omega
    have pm : ys.Perm (ivn (List.range m)) := (List.perm_ext_iff_of_nodup nd1 (ivn_nodup m)).mpr fun k => by
      rw [mem k, decide_eq_true_iff]
      unfold ivn
      rw [List.map_map]
      simp only [List.mem_map, List.mem_range, Function.comp]
      constructor
      · rintro ⟨r, hr, rfl⟩; exact ⟨sl r, hpl.lt r hr, rfl⟩
      · rintro ⟨s, hs, rfl⟩
        obtain ⟨r, hr, er⟩ := hpl.all s hs
        exact ⟨r, hr, by rw [er]⟩
    exact arr_eq List.pairwise_lt_range pm (pw.imp fun {x y} h => by omega)
  subst eys
  have m40 : m ≤ 40 := by
    obtain ⟨j, hj, ej, _⟩ := hpl.most
    have := row_len (b := b) j
    omega
  refine ⟨_, rfl, _, rfl, by omega, by omega, fun D4 nD4 => lc_it (walk_range (lo := 0) (n := ((m : Nat) : Int).toNat)) (fun i G => Same (upd (upd HD sp (SetO w sp (fun j => decide (j ∈ ivn ((List.range (3 + b.code.length)).map sl))) cn)) yq (.lst ((ivn (List.range m)).map V.int))) G ∧ G D4 = some (.lst (iv (ivn (List.range i))))) ⟨same_new nD4 _, upd_same⟩ (fun _ _ _ _ => trivial) ?_ ?_⟩
  · rintro i y Hx G hi ⟨sm, hD⟩ ⟨rfl, rfl⟩
    refine ⟨rfl, _, rfl, tick sm nD4 hD (fun _ _ e => e) ?_ ?_⟩
    · rw [List.range_succ, ivn_app]; simp [iv, ivn]
    · rw [iv_len, ivn_len, List.length_range]; unfold NN; omega
  rintro HF ⟨sF, hD4⟩
  rw [Int.toNat_natCast] at hD4
  refine ⟨nsd (ivn (List.range m)), nsd (ivn (List.range m)), nsd_dp (SqL.of (sF _ _ hyq)), nsd_dp (SqL.of hD4), nsd_shaped _, nsd_shaped _, _, rfl, ?_⟩
  rw [SeqAt.eqv_refl _ (nsd_lay _)]
  refine ifF rfl ?_
  have sCF : Same (upd HB tt (.tup [V.int (m : Int), V.int (((lensI b).idxOf (m : Int) : Nat) - 1)])) HF := (((same_new nN' _).trans sD).trans sE).trans sF
  have s8F := s8C.trans sCF
  have s3F : Same H3 HF := ((s36.trans s68).trans s8F)
  have gF : Go st c H3 HF := Go.same S3 s3F
  have SF := gF.2
  have dq0 : dq ≠ st ∧ dq ≠ c := St.new S3 nd4
  have oq0 : oq ≠ st ∧ oq ≠ c := St.new S3 (some_free0 (s4.trans s5) n6)
  have wsn : ∀ z ∈ ws, z ≠ st ∧ z ≠ c := fun z hz => St.new S3 (nws z hz)
  have hdqF := s8F _ _ hdq8
  have hoqF := s8F _ _ hoq8
  have hVF := hV8.same s8F
  have hBF := hB.fr (Fr.of s3F)
  -- other plans
  refine ⟨_, rfl, by decide, by decide, for_it (walk_range (lo := 0) (n := 4)) (fun i σ G => ∃ v8 v9 v10 : Option V, σ = [some (.ref p), some (.ref st), some (.ref t), some (.str (b.d nm).shown), some (.ref dq), some (.ref oq), some (.int (m : Int)), some (.int (((lensI b).idxOf (m : Int) : Nat) - 1)), v8, v9, v10, none, none] ∧ Go st c HF G) ⟨none, none, none, rfl, fun _ _ _ _ e => e, SF⟩ (fun _ _ _ _ _ => trivial) ?_ ?_⟩
  · rintro i y σ Hx G hi ⟨v8, v9, v10, rfl, gG⟩ ⟨rfl, rfl⟩
    have hoqG := gG.1 _ _ oq0.1 oq0.2 hoqF
    refine ⟨_, rfl, _, rfl, st, c, b, oq, sl, rfl, gG.2, wf, hoqG, oq0.1, oq0.2, fun G2 tq sl' gT ntq hpt => ?_⟩
    have g2G := gG.trans gT
    have hBG := hBF.fr (Fr.gg g2G)
    have hdqG := g2G.1 _ _ dq0.1 dq0.2 hdqF
    have hVG : VecsAt K G2 ws (rowsI b (b.code.length + 1)) := by
      have up : ∀ {as : List Addr} {xss : List (List Int)}, VecsAt K HF as xss → (∀ z ∈ as, z ≠ st ∧ z ≠ c) → VecsAt K G2 as xss := fun {as xss} => by
        induction as generalizing xss with
        | nil => cases xss <;> exact fun h _ => h
        | cons z r ih =>
          cases xss with
          | nil => exact fun h _ => h
          | cons x xs => exact fun h n => ⟨g2G.1 _ _ (n z (List.mem_cons_self ..)).1 (n z (List.mem_cons_self ..)).2 h.1, ih h.2 fun u hu => n u (List.mem_cons_of_mem _ hu)⟩
      exact up hVF wsn
    refine ⟨_, rfl, _, rfl, nm, b, _, tq, sl', rfl, B0 hBG, wf, hpt, fun G3 r3 s3 i3 => ?_⟩
    refine ⟨_, rfl, _, _, _, _, _, rfl, ClsV.ty "bool", .base (.bl r3), kit_ty (r := true) (by decide +kernel), _, rfl, ?_⟩
    refine ifF rfl ?_
    refine ⟨_, rfl, _, rfl, _, rfl, b, dq, tq, ws, sl', rfl, wf, s3 _ _ hdqG, hVG.same s3, hpt.same s3, fun G4 r4 s4' i4 => ⟨?_, _, rfl, ?_⟩⟩
    · rfl
    have e34 : r3 = r4 := by
      rw [Bool.eq_iff_iff, i3, i4]
    subst e34
    refine ifF (by rw [decide_eq_true rfl]; rfl) ?_
    exact ⟨_, _, _, rfl, g2G.trans (Go.same gT.2 (s3.trans s4'))⟩
  rintro σ G ⟨v8, v9, v10, rfl, gG⟩
  have hBG := hBF.fr (Fr.gg gG)
  refine ⟨_, rfl, t, b.d nm, rfl, hBG.dp ok, SH.ok, SH.nd, Nat.le_trans SH.dp (by decide), Nat.le_trans SH.ln (by decide), _, rfl, rfl, ?_⟩
  rw [decide_eq_true rfl]
  exact q _
end
end K15

namespace K15
open PySem PySem.Spec PyProof.Rows L2
/-! ### the top -/
theorem all_mk {l : PySem.W.OpenLaw} {w : World} {K : PySem.W.Frag} {h : Heap} {mg : Str → Option Value} {fa f0 f1 f2 f3 f4 f5 f6 f7 f8 f9 f10 f11 f12 f13 f14 f15 : Addr} (X : K.In h) (G : h.Ns mainGlobals mg) (hfa : mg "law" = some (.ref fa))
    {od0 an0 : Option Addr} {sl0 : Array (Option Value)} {oc0 kV0 dc0 pm0 cd0 ct0 : Value}
    {od1 an1 : Option Addr} {sl1 : Array (Option Value)} {oc1 kV1 dc1 pm1 cd1 ct1 : Value}
    {od2 an2 : Option Addr} {sl2 : Array (Option Value)} {oc2 kV2 dc2 pm2 cd2 ct2 : Value}
    {od3 an3 : Option Addr} {sl3 : Array (Option Value)} {oc3 kV3 dc3 pm3 cd3 ct3 : Value}
    {od4 an4 : Option Addr} {sl4 : Array (Option Value)} {oc4 kV4 dc4 pm4 cd4 ct4 : Value}
    {od5 an5 : Option Addr} {sl5 : Array (Option Value)} {oc5 kV5 dc5 pm5 cd5 ct5 : Value}
    {od6 an6 : Option Addr} {sl6 : Array (Option Value)} {oc6 kV6 dc6 pm6 cd6 ct6 : Value}
    {od7 an7 : Option Addr} {sl7 : Array (Option Value)} {oc7 kV7 dc7 pm7 cd7 ct7 : Value}
    {od8 an8 : Option Addr} {sl8 : Array (Option Value)} {oc8 kV8 dc8 pm8 cd8 ct8 : Value}
    {od9 an9 : Option Addr} {sl9 : Array (Option Value)} {oc9 kV9 dc9 pm9 cd9 ct9 : Value}
    {od10 an10 : Option Addr} {sl10 : Array (Option Value)} {oc10 kV10 dc10 pm10 cd10 ct10 : Value}
    {od11 an11 : Option Addr} {sl11 : Array (Option Value)} {oc11 kV11 dc11 pm11 cd11 ct11 : Value}
    {od12 an12 : Option Addr} {sl12 : Array (Option Value)} {oc12 kV12 dc12 pm12 cd12 ct12 : Value}
    {od13 an13 : Option Addr} {sl13 : Array (Option Value)} {oc13 kV13 dc13 pm13 cd13 ct13 : Value}
    {od14 an14 : Option Addr} {sl14 : Array (Option Value)} {oc14 kV14 dc14 pm14 cd14 ct14 : Value}
    {od15 an15 : Option Addr} {sl15 : Array (Option Value)} {oc15 kV15 dc15 pm15 cd15 ct15 : Value}
    (a0 : PySem.W.nsIn K mainGlobals "forms_of" = some (some (.ref f0)))
    (l0 : K.lookup f0 = some ⟨oc0, od0, .func (PySem.W.fnOf "forms_of" "forms_of" (defArgs s_forms_of) (defBody s_forms_of) (defScope s_forms_of) .none kV0 dc0 pm0 an0 cd0 ct0), sl0⟩)
    (c0 : PySem.W.codeIn K cd0 "forms_of" = true)
    (k0 : PySem.W.keepIn K (.ref f0) = true)
    (a1 : PySem.W.nsIn K mainGlobals "vector_count" = some (some (.ref f1)))
    (l1 : K.lookup f1 = some ⟨oc1, od1, .func (PySem.W.fnOf "vector_count" "vector_count" (defArgs s_vector_count) (defBody s_vector_count) (defScope s_vector_count) .none kV1 dc1 pm1 an1 cd1 ct1), sl1⟩)
    (c1 : PySem.W.codeIn K cd1 "vector_count" = true)
    (k1 : PySem.W.keepIn K (.ref f1) = true)
    (a2 : PySem.W.nsIn K mainGlobals "live" = some (some (.ref f2)))
    (l2 : K.lookup f2 = some ⟨oc2, od2, .func (PySem.W.fnOf "live" "live" (defArgs s_live) (defBody s_live) (defScope s_live) .none kV2 dc2 pm2 an2 cd2 ct2), sl2⟩)
    (c2 : PySem.W.codeIn K cd2 "live" = true)
    (k2 : PySem.W.keepIn K (.ref f2) = true)
    (a3 : PySem.W.nsIn K mainGlobals "fewest" = some (some (.ref f3)))
    (l3 : K.lookup f3 = some ⟨oc3, od3, .func (PySem.W.fnOf "fewest" "fewest" (defArgs s_fewest) (defBody s_fewest) (defScope s_fewest) .none kV3 dc3 pm3 an3 cd3 ct3), sl3⟩)
    (c3 : PySem.W.codeIn K cd3 "fewest" = true)
    (k3 : PySem.W.keepIn K (.ref f3) = true)
    (a4 : PySem.W.nsIn K mainGlobals "plan" = some (some (.ref f4)))
    (l4 : K.lookup f4 = some ⟨oc4, od4, .func (PySem.W.fnOf "plan" "plan" (defArgs s_plan) (defBody s_plan) (defScope s_plan) .none kV4 dc4 pm4 an4 cd4 ct4), sl4⟩)
    (c4 : PySem.W.codeIn K cd4 "plan" = true)
    (k4 : PySem.W.keepIn K (.ref f4) = true)
    (a5 : PySem.W.nsIn K mainGlobals "plan_right" = some (some (.ref f5)))
    (l5 : K.lookup f5 = some ⟨oc5, od5, .func (PySem.W.fnOf "plan_right" "plan_right" (defArgs s_plan_right) (defBody s_plan_right) (defScope s_plan_right) .none kV5 dc5 pm5 an5 cd5 ct5), sl5⟩)
    (c5 : PySem.W.codeIn K cd5 "plan_right" = true)
    (k5 : PySem.W.keepIn K (.ref f5) = true)
    (a6 : PySem.W.nsIn K mainGlobals "spans_of" = some (some (.ref f6)))
    (l6 : K.lookup f6 = some ⟨oc6, od6, .func (PySem.W.fnOf "spans_of" "spans_of" (defArgs s_spans_of) (defBody s_spans_of) (defScope s_spans_of) .none kV6 dc6 pm6 an6 cd6 ct6), sl6⟩)
    (c6 : PySem.W.codeIn K cd6 "spans_of" = true)
    (k6 : PySem.W.keepIn K (.ref f6) = true)
    (a7 : PySem.W.nsIn K mainGlobals "_law_state" = some (some (.ref f7)))
    (l7 : K.lookup f7 = some ⟨oc7, od7, .func (PySem.W.fnOf "_law_state" "_law_state" (defArgs s_law_state) (defBody s_law_state) (defScope s_law_state) .none kV7 dc7 pm7 an7 cd7 ct7), sl7⟩)
    (c7 : PySem.W.codeIn K cd7 "_law_state" = true)
    (k7 : PySem.W.keepIn K (.ref f7) = true)
    (a8 : PySem.W.nsIn K mainGlobals "_law_draw" = some (some (.ref f8)))
    (l8 : K.lookup f8 = some ⟨oc8, od8, .func (PySem.W.fnOf "_law_draw" "_law_draw" (defArgs s_law_draw) (defBody s_law_draw) (defScope s_law_draw) .none kV8 dc8 pm8 an8 cd8 ct8), sl8⟩)
    (c8 : PySem.W.codeIn K cd8 "_law_draw" = true)
    (k8 : PySem.W.keepIn K (.ref f8) = true)
    (a9 : PySem.W.nsIn K mainGlobals "_law_pick" = some (some (.ref f9)))
    (l9 : K.lookup f9 = some ⟨oc9, od9, .func (PySem.W.fnOf "_law_pick" "_law_pick" (defArgs s_law_pick) (defBody s_law_pick) (defScope s_law_pick) .none kV9 dc9 pm9 an9 cd9 ct9), sl9⟩)
    (c9 : PySem.W.codeIn K cd9 "_law_pick" = true)
    (k9 : PySem.W.keepIn K (.ref f9) = true)
    (a10 : PySem.W.nsIn K mainGlobals "_law_code" = some (some (.ref f10)))
    (l10 : K.lookup f10 = some ⟨oc10, od10, .func (PySem.W.fnOf "_law_code" "_law_code" (defArgs s_law_code) (defBody s_law_code) (defScope s_law_code) .none kV10 dc10 pm10 an10 cd10 ct10), sl10⟩)
    (c10 : PySem.W.codeIn K cd10 "_law_code" = true)
    (k10 : PySem.W.keepIn K (.ref f10) = true)
    (a11 : PySem.W.nsIn K mainGlobals "_law_blocks" = some (some (.ref f11)))
    (l11 : K.lookup f11 = some ⟨oc11, od11, .func (PySem.W.fnOf "_law_blocks" "_law_blocks" (defArgs s_law_blocks) (defBody s_law_blocks) (defScope s_law_blocks) .none kV11 dc11 pm11 an11 cd11 ct11), sl11⟩)
    (c11 : PySem.W.codeIn K cd11 "_law_blocks" = true)
    (k11 : PySem.W.keepIn K (.ref f11) = true)
    (a12 : PySem.W.nsIn K mainGlobals "_law_live" = some (some (.ref f12)))
    (l12 : K.lookup f12 = some ⟨oc12, od12, .func (PySem.W.fnOf "_law_live" "_law_live" (defArgs s_law_live) (defBody s_law_live) (defScope s_law_live) .none kV12 dc12 pm12 an12 cd12 ct12), sl12⟩)
    (c12 : PySem.W.codeIn K cd12 "_law_live" = true)
    (k12 : PySem.W.keepIn K (.ref f12) = true)
    (a13 : PySem.W.nsIn K mainGlobals "_law_fits" = some (some (.ref f13)))
    (l13 : K.lookup f13 = some ⟨oc13, od13, .func (PySem.W.fnOf "_law_fits" "_law_fits" (defArgs s_law_fits) (defBody s_law_fits) (defScope s_law_fits) .none kV13 dc13 pm13 an13 cd13 ct13), sl13⟩)
    (c13 : PySem.W.codeIn K cd13 "_law_fits" = true)
    (k13 : PySem.W.keepIn K (.ref f13) = true)
    (a14 : PySem.W.nsIn K mainGlobals "_law_turned" = some (some (.ref f14)))
    (l14 : K.lookup f14 = some ⟨oc14, od14, .func (PySem.W.fnOf "_law_turned" "_law_turned" (defArgs s_law_turned) (defBody s_law_turned) (defScope s_law_turned) .none kV14 dc14 pm14 an14 cd14 ct14), sl14⟩)
    (c14 : PySem.W.codeIn K cd14 "_law_turned" = true)
    (k14 : PySem.W.keepIn K (.ref f14) = true)
    (a15 : PySem.W.nsIn K mainGlobals "law" = some (some (.ref f15)))
    (l15 : K.lookup f15 = some ⟨oc15, od15, .func (PySem.W.fnOf "law" "law" (defArgs s_law) (defBody s_law) (defScope s_law) .none kV15 dc15 pm15 an15 cd15 ct15), sl15⟩)
    (c15 : PySem.W.codeIn K cd15 "law" = true)
    (k15 : PySem.W.keepIn K (.ref f15) = true)
    (b_len : PySem.W.nsIn K mainGlobals "len" = some none)
    (b_abs : PySem.W.nsIn K mainGlobals "abs" = some none)
    (b_int : PySem.W.nsIn K mainGlobals "int" = some none)
    (b_max : PySem.W.nsIn K mainGlobals "max" = some none)
    (b_isinstance : PySem.W.nsIn K mainGlobals "isinstance" = some none)
    (b_range : PySem.W.nsIn K mainGlobals "range" = some none)
    (b_enumerate : PySem.W.nsIn K mainGlobals "enumerate" = some none)
    (b_list : PySem.W.nsIn K mainGlobals "list" = some none)
    (b_sorted : PySem.W.nsIn K mainGlobals "sorted" = some none)
    (b_set : PySem.W.nsIn K mainGlobals "set" = some none)
    (b_repr : PySem.W.nsIn K mainGlobals "repr" = some none)
    (b_dict : PySem.W.nsIn K mainGlobals "dict" = some none)
    (b_bool : PySem.W.nsIn K mainGlobals "bool" = some none)
    (h_heappush : PySem.W.nsIn K mainGlobals "heappush" = some (some (.builtin "_heapq.heappush")))
    (h_heappop : PySem.W.nsIn K mainGlobals "heappop" = some (some (.builtin "_heapq.heappop")))
    : ∃ fd : FuncData, (∀ (s : Shared) (v : Value), BindsTo s fd ⟨[v], []⟩ [("script", v)]) ∧ ∀ base : Heap, K.In base → base.Ns mainGlobals mg → GX.FnG l.prog w K mg base CX0 6 fa fd ["script"] (spLaw K) := by
  have e := hfa.symm.trans (PySem.W.mg_of X G a15)
  cases e
  have F0 := fun_mk (st := s_forms_of) l0 c0 k0
  have B0 := F0.binds (ps := ["kind"]) fun _ _ _ _ _ _ us hl => match us, hl with | [_], _ => rfl
  have F1 := fun_mk (st := s_vector_count) l1 c1 k1
  have B1 := F1.binds (ps := ["kind"]) fun _ _ _ _ _ _ us hl => match us, hl with | [_], _ => rfl
  have F2 := fun_mk (st := s_live) l2 c2 k2
  have B2 := F2.binds (ps := ["block"]) fun _ _ _ _ _ _ us hl => match us, hl with | [_], _ => rfl
  have F3 := fun_mk (st := s_fewest) l3 c3 k3
  have B3 := F3.binds (ps := ["block"]) fun _ _ _ _ _ _ us hl => match us, hl with | [_], _ => rfl
  have F4 := fun_mk (st := s_plan) l4 c4 k4
  have B4 := F4.binds (ps := ["block"]) fun _ _ _ _ _ _ us hl => match us, hl with | [_], _ => rfl
  have F5 := fun_mk (st := s_plan_right) l5 c5 k5
  have B5 := F5.binds (ps := ["block", "slots"]) fun _ _ _ _ _ _ us hl => match us, hl with | [_, _], _ => rfl
  have F6 := fun_mk (st := s_spans_of) l6 c6 k6
  have B6 := F6.binds (ps := ["block"]) fun _ _ _ _ _ _ us hl => match us, hl with | [_], _ => rfl
  have F7 := fun_mk (st := s_law_state) l7 c7 k7
  have B7 := F7.binds (ps := ["script"]) fun _ _ _ _ _ _ us hl => match us, hl with | [_], _ => rfl
  have F8 := fun_mk (st := s_law_draw) l8 c8 k8
  have B8 := F8.binds (ps := ["state", "many"]) fun _ _ _ _ _ _ us hl => match us, hl with | [_, _], _ => rfl
  have F9 := fun_mk (st := s_law_pick) l9 c9 k9
  have B9 := F9.binds (ps := ["state", "row"]) fun _ _ _ _ _ _ us hl => match us, hl with | [_, _], _ => rfl
  have F10 := fun_mk (st := s_law_code) l10 c10 k10
  have B10 := F10.binds (ps := ["state", "many"]) fun _ _ _ _ _ _ us hl => match us, hl with | [_, _], _ => rfl
  have F11 := fun_mk (st := s_law_blocks) l11 c11 k11
  have B11 := F11.binds (ps := ["state"]) fun _ _ _ _ _ _ us hl => match us, hl with | [_], _ => rfl
  have F12 := fun_mk (st := s_law_live) l12 c12 k12
  have B12 := F12.binds (ps := ["block"]) fun _ _ _ _ _ _ us hl => match us, hl with | [_], _ => rfl
  have F13 := fun_mk (st := s_law_fits) l13 c13 k13
  have B13 := F13.binds (ps := ["rows", "slots"]) fun _ _ _ _ _ _ us hl => match us, hl with | [_, _], _ => rfl
  have F14 := fun_mk (st := s_law_turned) l14 c14 k14
  have B14 := F14.binds (ps := ["state", "slots"]) fun _ _ _ _ _ _ us hl => match us, hl with | [_, _], _ => rfl
  have F15 := fun_mk (st := s_law) l15 c15 k15
  have B15 := F15.binds (ps := ["script"]) fun _ _ _ _ _ _ us hl => match us, hl with | [_], _ => rfl
  have T : Txt w K mg ⟨(f0, _), (f1, _), (f2, _), (f3, _), (f4, _), (f5, _), (f6, _), (f7, _), (f8, _), (f9, _), (f10, _), (f11, _), (f12, _), (f13, _), (f14, _), (_, _)⟩ :=
    { forms_of := ⟨F0, PySem.W.mg_of X G a0, B0⟩, vector_count := ⟨F1, PySem.W.mg_of X G a1, B1⟩, live := ⟨F2, PySem.W.mg_of X G a2, B2⟩, fewest := ⟨F3, PySem.W.mg_of X G a3, B3⟩, plan := ⟨F4, PySem.W.mg_of X G a4, B4⟩, plan_right := ⟨F5, PySem.W.mg_of X G a5, B5⟩, spans_of := ⟨F6, PySem.W.mg_of X G a6, B6⟩, law_state := ⟨F7, PySem.W.mg_of X G a7, B7⟩, law_draw := ⟨F8, PySem.W.mg_of X G a8, B8⟩, law_pick := ⟨F9, PySem.W.mg_of X G a9, B9⟩, law_code := ⟨F10, PySem.W.mg_of X G a10, B10⟩, law_blocks := ⟨F11, PySem.W.mg_of X G a11, B11⟩, law_live := ⟨F12, PySem.W.mg_of X G a12, B12⟩, law_fits := ⟨F13, PySem.W.mg_of X G a13, B13⟩, law_turned := ⟨F14, PySem.W.mg_of X G a14, B14⟩, law := ⟨F15, PySem.W.mg_of X G a15, B15⟩,
      len := PySem.W.mg_none_of X G b_len, abs := PySem.W.mg_none_of X G b_abs, int := PySem.W.mg_none_of X G b_int, max := PySem.W.mg_none_of X G b_max, isinstance := PySem.W.mg_none_of X G b_isinstance, range := PySem.W.mg_none_of X G b_range, enumerate := PySem.W.mg_none_of X G b_enumerate, list := PySem.W.mg_none_of X G b_list, sorted := PySem.W.mg_none_of X G b_sorted, set := PySem.W.mg_none_of X G b_set, repr := PySem.W.mg_none_of X G b_repr, dict := PySem.W.mg_none_of X G b_dict, bool := PySem.W.mg_none_of X G b_bool, heappush := PySem.W.mg_of X G h_heappush, heappop := PySem.W.mg_of X G h_heappop }
  exact ⟨_, fun s v => .of_eq rfl, fun base _ _ => ok_law T⟩
end K15
open PySem PySem.W PyProof.Rows
set_option maxRecDepth 100000 in
set_option maxHeartbeats 0 in
theorem PySem.Challenge.cw_flatsheaves_k15_slots_of_blocks_holds : PySem.Challenge.rw_flatsheaves_k15_slots_of_blocks.Holds := by
  w_on; o_law; k_head; (case hw => w_witness2)
  k_fill
  refine GX.walkG (l := PySem.Challenge.rw_flatsheaves_k15_slots_of_blocks) (n := 63) (k := 6) (x := "script") (cx := fun w => L2.CX0) (sp := fun w => K15.spLaw _) rfl (by decide) rfl ⟨rfl, by decide, by decide⟩ (fun w h Y => PySem.W.kIn_of Y) ?F (fun _ _ a ns hl hS => ⟨a, ns, rfl, hS, hl, fun _ => rfl⟩) fun _ _ _ _ _ z => z
  case F =>
    intro w mg fa h KX G hmg
    refine' K15.all_mk KX G hmg ?hha0 ?hhl0 ?hhc0 ?hhk0 ?hha1 ?hhl1 ?hhc1 ?hhk1 ?hha2 ?hhl2 ?hhc2 ?hhk2 ?hha3 ?hhl3 ?hhc3 ?hhk3 ?hha4 ?hhl4 ?hhc4 ?hhk4 ?hha5 ?hhl5 ?hhc5 ?hhk5 ?hha6 ?hhl6 ?hhc6 ?hhk6 ?hha7 ?hhl7 ?hhc7 ?hhk7 ?hha8 ?hhl8 ?hhc8 ?hhk8 ?hha9 ?hhl9 ?hhc9 ?hhk9 ?hha10 ?hhl10 ?hhc10 ?hhk10 ?hha11 ?hhl11 ?hhc11 ?hhk11 ?hha12 ?hhl12 ?hhc12 ?hhk12 ?hha13 ?hhl13 ?hhc13 ?hhk13 ?hha14 ?hhl14 ?hhc14 ?hhk14 ?hha15 ?hhl15 ?hhc15 ?hhk15 ?hhb_len ?hhb_abs ?hhb_int ?hhb_max ?hhb_isinstance ?hhb_range ?hhb_enumerate ?hhb_list ?hhb_sorted ?hhb_set ?hhb_repr ?hhb_dict ?hhb_bool ?hhh_heappush ?hhh_heappop
    (case hha0 => k_is)
    (case hhl0 => k_is)
    (case hhc0 => k_is)
    (case hhk0 => k_is)
    (case hha1 => k_is)
    (case hhl1 => k_is)
    (case hhc1 => k_is)
    (case hhk1 => k_is)
    (case hha2 => k_is)
    (case hhl2 => k_is)
    (case hhc2 => k_is)
    (case hhk2 => k_is)
    (case hha3 => k_is)
    (case hhl3 => k_is)
    (case hhc3 => k_is)
    (case hhk3 => k_is)
    (case hha4 => k_is)
    (case hhl4 => k_is)
    (case hhc4 => k_is)
    (case hhk4 => k_is)
    (case hha5 => k_is)
    (case hhl5 => k_is)
    (case hhc5 => k_is)
    (case hhk5 => k_is)
    (case hha6 => k_is)
    (case hhl6 => k_is)
    (case hhc6 => k_is)
    (case hhk6 => k_is)
    (case hha7 => k_is)
    (case hhl7 => k_is)
    (case hhc7 => k_is)
    (case hhk7 => k_is)
    (case hha8 => k_is)
    (case hhl8 => k_is)
    (case hhc8 => k_is)
    (case hhk8 => k_is)
    (case hha9 => k_is)
    (case hhl9 => k_is)
    (case hhc9 => k_is)
    (case hhk9 => k_is)
    (case hha10 => k_is)
    (case hhl10 => k_is)
    (case hhc10 => k_is)
    (case hhk10 => k_is)
    (case hha11 => k_is)
    (case hhl11 => k_is)
    (case hhc11 => k_is)
    (case hhk11 => k_is)
    (case hha12 => k_is)
    (case hhl12 => k_is)
    (case hhc12 => k_is)
    (case hhk12 => k_is)
    (case hha13 => k_is)
    (case hhl13 => k_is)
    (case hhc13 => k_is)
    (case hhk13 => k_is)
    (case hha14 => k_is)
    (case hhl14 => k_is)
    (case hhc14 => k_is)
    (case hhk14 => k_is)
    (case hha15 => k_is)
    (case hhl15 => k_is)
    (case hhc15 => k_is)
    (case hhk15 => k_is)
    (case hhb_len => k_is)
    (case hhb_abs => k_is)
    (case hhb_int => k_is)
    (case hhb_max => k_is)
    (case hhb_isinstance => k_is)
    (case hhb_range => k_is)
    (case hhb_enumerate => k_is)
    (case hhb_list => k_is)
    (case hhb_sorted => k_is)
    (case hhb_set => k_is)
    (case hhb_repr => k_is)
    (case hhb_dict => k_is)
    (case hhb_bool => k_is)
    (case hhh_heappush => k_is)
    (case hhh_heappop => k_is)
#print axioms PySem.Challenge.cw_flatsheaves_k15_slots_of_blocks_holds

