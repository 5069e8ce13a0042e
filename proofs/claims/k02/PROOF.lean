import PyProof.Rows.All
import Wide.All
import OpenK.AllK
import Wide.FinOn
import PyProof.ReprRoads
import HandS.ForMost
import HandS.ForExc
import PyProof.Rows.SetFrom
import HandS.Wide
import HandS.ExcIs
import HandS.IsInst
import HandS.CallLocal
import HandS.More
import HandS.Set
import HandS.SetKeys
import HandS.Style
import HandS.Walk
import HandS.FStr
import HandS.Small
import HandS.Star
import PyProof.Rows.SortShellAny
import PyProof.RulesMatch
import HandS.Flow
import PyProof.DelItemList
import PyProof.Rows.TupDisplay
import PyProof.ListCopy
import HandS.TryOnly
import PySem.Challenge.RW_flatsheaves_k02_kinds
set_option Elab.async false
set_option linter.all false
set_option maxRecDepth 100000
set_option maxHeartbeats 4000000
namespace GX
open PySem PySem.Spec PyProof.Rows L2
/-! ### defs that show data by repr: no text is being shown around them -/
structure FnG (P : Program) (w : World) (K : PySem.W.Frag) (mg : Str → Option Value) (base : Heap) (cx : CXT) (k : Nat) (f : Addr) (fd : FuncData) (ps : List Str) (sp : Sp) : Prop where
  len : ∀ {vs H Q E}, sp vs H Q E → vs.length = ps.length
  run : ∀ {A : Around} {outer : List Env} {s : Shared} {H : Hp} {g : Args} {us : List Value} {vs : List V} {Q : VK} {E : XK}, A.guards = some [] → Room k A → Env0 P w K mg base A outer s H →
    BindsTo s fd g (ps.zip us) → Vals vs us → sp vs H Q E → codeAny (model P w) A (.call (.ref f) g) (CR cx outer P w H s Q E) s
theorem ce_end {P : Program} {w : World} {K : PySem.W.Frag} {mg : Str → Option Value} {base : Heap} {N : List Str} {q : Str} {sc : Scope} {f : Addr} {cd : Value} {A : Around} {outer : List Env} {s s' : Shared} {H H' : Hp} {E : XK} {cx : CXT} {σ : L2.St} {v : V} {u : Value} {Q : VK}
    (I : Inv (cxOf cx P w K mg base N q sc f cd A outer s H E) [] σ H' s') (r : RelV v u) (z : Q v H') : CE outer P w H s Q u s' := ⟨v, H', I.os, I.bare, I.base, I.hok, r, z⟩
section
variable {P : Program} {w : World} {K : PySem.W.Frag} {mg : Str → Option Value} {base : Heap} {cx : CXT} {k : Nat} {f : Addr} {fd : FuncData} {N ps : List Str} {sp : Sp} {x qual : Str} {st : Stmt}
theorem fnG (F : Fun K x qual st f fd) (S : FnScope N ps (defScope st)) (len : ∀ vs H Q E, sp vs H Q E → vs.length = ps.length)
    (body : ∀ (cdv : Value) (A : Around) (outer : List Env) (s : Shared) (H : Hp) (vs : List V) (Q : VK) (E : XK), (A.deeper (envOfC qual (defScope st) s.heap.objs.size f cdv)).guards = some [] → Room k (A.deeper (envOfC qual (defScope st) s.heap.objs.size f cdv)) → sp vs H Q E →
      ∃ t, PSs (cxOf cx P w K mg base N qual (defScope st) f cdv A outer s H E) (defBody st) t ∧ t { nx := fun _ H' => Q .non H', rt := Q } (start N vs) H) : FnG P w K mg base cx (k + 1) f fd ps sp := by
  obtain ⟨_, _, _, _, _, _, cdv, _, _, rfl, lk, hcd⟩ := F.ex
  constructor
  · intro vs H Q E h; exact len _ _ _ _ h
  intro A outer s H g us vs Q E hg hr e0 hb r h
  have KX : K.In s.heap := e0.mod.kin.keeps fun b o e => (e0.bs b o e).1
  have kinds : ∀ y ∈ ps.zip us, (defScope st).names.lookup y.1 = some .local ∨ ((defScope st).names.lookup y.1 = some .cell ∧ ((cellsFrom (s.heap.objs.size + 1) (defScope st).names []).lookup y.1).isSome = true) := by
    rintro ⟨n, v⟩ hy
    exact (S.par n (List.of_mem_zip hy).1).imp_right fun q => ⟨q, PySem.W.cellsFrom_some _ _ _ (.inl q)⟩
  refine codeAny_call_function hr.depth (KX _ _ lk) rfl S.co S.gen rfl (PySem.W.codeRec_of KX hcd) (hb _ _ _ _ (wpAny_newFunctionEnv_cells S.kind kinds ?_))
  rintro env rfl s1 z
  refine ⟨(e0.mod.nolimit.keeps fun b o e => (e0.bs b o e).1).keeps z.toInCall.keep, codeAny_func ?_⟩
  obtain ⟨t, ht, hq⟩ := body cdv A outer s H vs Q E hg (hr.deeper _) h
  refine wpAny_mono (ht.run [] s1 (start N vs) H _ (inv_start S hr.hd e0 (len _ _ _ _ h) r z) hq) ?_ fun _ _ y => y
  intro fl s' y
  cases fl with
  | next => exact let ⟨_, _, J, q⟩ := y; ce_end (v := V.non) (u := Value.none) J rfl q
  | ret u => exact let ⟨_, _, _, J, rv, q⟩ := y; ce_end J rv q
  | brk => exact let ⟨_, _, _, q⟩ := y; False.elim q
  | cont => exact let ⟨_, _, _, q⟩ := y; False.elim q
end
section
variable {X : Cx} {cx : CXT} {k : Nat} {f : Addr} {fd : FuncData} {ps : List Str} {sp : Sp} {E : XK} {x : Str} {p pos : Pos} {e : Expr} {es : List Expr} {t : TA}
theorem pe_callG (F : FnG X.prog X.w X.K X.mg X.base cx k f fd ps sp) (hg0 : X.A.guards = some []) (hr : Room k X.A) (hg : Gl X x) (hm : X.mg x = some (.ref f)) (hk : PySem.W.keepIn X.K (.ref f) = true) (hb : Binds X.K fd ps []) (hx : Passes cx X E)
    (ha : PA X (e :: es) t) (hdb : (x == ("__debug__" : Str)) = false := by decide) (he : starEach (e :: es) X.env = (false, eval e X.env) :: starEach es X.env := by rfl) (hpl : (backTo pos (starEach es X.env)).any (·.1) = false := by rfl) :
    PE X (.Call (.Name x p) (e :: es) [] pos) (tCall sp [] E t) := by
  constructor
  intro pins s σ H Q I h
  refine wpAny_Call_Name_kw (ld_glob I hg hm (PySem.W.callWith_K (h₀ := X.base) I.ok.mod.kin hk (thn (ha.run pos pins s σ H _ I h) ?_) he hpl) hdb)
  rintro us s1 ⟨vs, H1, J, r, q⟩
  rw [List.append_nil] at q
  refine ⟨J.kIn, wpAny_call (codeAny_mono (F.run hg0 hr J.env0 (by simpa using hb s1 us J.kIn (by rw [List.append_nil, ← r.length]; exact F.len q)) r q) ?_)⟩
  intro res s' y
  match res, y with
  | .error err, y => exact hx pins σ H1 s1 err s' J y
  | .ok (.ret u), y => exact J.after y
  | .ok .next, y => exact False.elim y
  | .ok .brk, y => exact False.elim y
  | .ok .cont, y => exact False.elim y
/-- repr of lists and tuples of data -/
def rReprD (K : PySem.W.Frag) : List V → Hp → VK → Prop := fun xs H Q => ∃ (a : Addr) (d : PyData), xs = [.ref a] ∧ Dp K H (.ref a) d ∧ d.showable = true ∧ d.hasDict = false ∧ d.depth ≤ 60 ∧ d.shown.length ≤ sizeLine ∧ Q (.str d.shown) H
theorem call_reprD (hg : X.A.guards = some []) (hu : X.A.units + 64 < cLine) : CallR X (.builtin "repr") (rReprD X.K) := by
  intro pins s σ H xs us Q I r h
  obtain ⟨a, d, rfl, hd, h1, h2, h3, h4, q⟩ := h
  obtain ⟨u, rfl, rfl⟩ := vals1 r
  obtain ⟨as, hR⟩ := Dp.reads I d _ _ hd (rfl : RelV (.ref a) (.ref a))
  refine repr_of_reads' hR h1 (fun z => by rw [h2] at z; cases z) hg (by omega) (fun _ _ e => e) (fun h' u tk hk => ?_) h4
  exact ⟨.str d.shown, H, I.un (Un.kept hk) (I.hok.kept hk), ⟨u, rfl⟩, q⟩
end
/-! ### the law's end -/
theorem law_callG {P : Program} {w : World} {K : PySem.W.Frag} {mg mb : Str → Option Value} {cx : CXT} {k : Nat} {fa a : Addr} {fd : FuncData} {x : Str} {sp : Sp} {s : Shared} {vs : List Value} {ns : List Int}
    (KX : K.In s.heap) (hns : s.heap.Ns mainGlobals mg) (hb : s.heap.Ns builtinsNs mb) (hbb : ∀ x : Str, x ≠ "__name__" → mb x = bootBuiltins x) (hlim : s.heap.NoLimit) (hgens : s.gens = #[])
    (ha : s.heap.get? a = some { cls := .type "list", data := .seq vs.toArray }) (hi : IntsAre vs ns) (hl : ns.length ≤ sizeLine) (hr : Room k callerA)
    (F : ∀ base : Heap, K.In base → base.Ns mainGlobals mg → FnG P w K mg base cx k fa fd [x] sp) (hbind : ∀ (s : Shared) (u : Value), BindsTo s fd ⟨[u], []⟩ [(x, u)])
    (hsp : ∀ H : Hp, Only H → SqL K H a (ns.map V.int) → sp [.ref a] H (fun v _ => v = .bl true) fun _ _ _ => False)
    (hcx : ∀ H e s', cx [] H s (fun _ _ _ => False) e s' → False) :
    codeAny (model P w) callerA (.call (.ref fa) ⟨[.ref a], []⟩) (fun r s' => r = .ok (.ret (.bool true)) ∧ OldK s.heap s'.heap ∧ s'.os = s.os ∧ AllBare s'.gens) s := by
  have rv := vals_ints hi
  -- the heap: the script alone, where it is no object of the module's own
  have go : ∀ H : Hp, (∀ b u, H b = some u → b = a ∧ K.lookup a = none ∧ ∃ ob xs, u = .frz ob (.lst xs)) → SqL K H a (ns.map V.int) → HOk P w H s.heap →
      codeAny (model P w) callerA (.call (.ref fa) ⟨[.ref a], []⟩) (fun r s' => r = .ok (.ret (.bool true)) ∧ OldK s.heap s'.heap ∧ s'.os = s.os ∧ AllBare s'.gens) s := by
    intro H own hS hok
    have bare : ∀ {b : Addr}, b ≠ a → H b = none := fun {b} n => by
      cases e : H b with
      | none => rfl
      | some u => exact absurd (own b u e).1 n
    have dict : ∀ {b : Addr} {o : Obj} {es : Array DictEntry} {ep : Nat}, s.heap.get? b = some o → o.data = .dict es ep → H b = none := fun {b o es ep} e d => bare fun z => by
      rw [z, ha] at e
      cases e
      exact (nomatch (show Data.seq vs.toArray _ = Data.dict es ep from d))
    have nsB : ∀ {b : Addr} {m : Str → Option Value}, s.heap.Ns b m → (hidT s.heap H).Ns b m := fun {b m} z => by
      obtain ⟨o, es, ep, e, d, r⟩ := z
      exact ⟨o, es, ep, hidT_get e (dict e d), d, r⟩
    have kB : K.In (hidT s.heap H) := fun b o e => hidT_get (KX b o e) (by
      cases q : H b with
      | none => rfl
      | some u =>
        obtain ⟨rfl, n, _⟩ := own b u q
        rw [n] at e
        cases e)
    obtain ⟨mc, c1, c2⟩ := hlim
    have e0 : Env0 P w K mg (hidT s.heap H) callerA [] s H :=
      { frames := rfl, mod := ⟨kB, nsB hns, ⟨mb, nsB hb, hbb⟩, mc, nsB c1, c2⟩, bs := fun b o e => of_hidT e, bsz := Nat.le_of_eq (hidT_size _ _), funs := trivial, frf := fun b z => (nomatch (show b ∈ ([] : List Addr) from z)), hok := hok, bare := .of_eq hgens }
    have only : Only H := fun b => by
      cases e : H b with
      | none => exact .inl rfl
      | some u =>
        obtain ⟨_, _, ob, xs, rfl⟩ := own b u e
        exact .inr ⟨ob, xs, rfl⟩
    refine codeAny_mono ((F _ kB (nsB hns)).run (A := callerA) (us := [.ref a]) rfl hr e0 (hbind s (.ref a)) (.cons (show RelV (.ref a) (.ref a) from rfl) .nil) (hsp H only hS)) ?_
    intro res s' y
    match res, y with
    | .error err, y => exact (hcx H err s' y).elim
    | .ok .next, y => exact False.elim y
    | .ok .brk, y => exact False.elim y
    | .ok .cont, y => exact False.elim y
    | .ok (.ret u), y =>
      obtain ⟨v, H', os, gb, un, hok', r', q⟩ := y
      obtain rfl : v = .bl true := q
      obtain rfl : u = Value.bool true := r'
      refine ⟨rfl, OldK.of_keep fun b o e => ?_, os, gb⟩
      cases q : H b with
      | none => exact un.keep b o e q (fun z => nomatch (show b ∈ ([] : List Addr) from z)) (fun z => nomatch z)
      | some u =>
        obtain ⟨_, _, ob, xs, rfl⟩ := own b u q
        have g1 := (hok b _ q).1
        have g2 := (hok' b _ (un.frzs b ob _ q)).1
        rw [e] at g1
        cases g1
        exact g2
  by_cases hK : K.lookup a = none
  · obtain ⟨H, hH⟩ : ∃ H : Hp, H = upd (fun _ => none) a (.frz { cls := .type "list", data := .seq vs.toArray } (.lst (ns.map V.int))) := ⟨_, rfl⟩
    have at_a : H a = some (.frz { cls := .type "list", data := .seq vs.toArray } (.lst (ns.map V.int))) := by rw [hH]; exact upd_same
    have off : ∀ b u, H b = some u → b = a ∧ u = .frz { cls := .type "list", data := .seq vs.toArray } (.lst (ns.map V.int)) := fun b u e => by
      by_cases c : b = a
      · rw [c, at_a] at e
        exact ⟨c, (Option.some.inj e).symm⟩
      · rw [hH, upd_ne c] at e
        cases e
    refine go H (fun b u e => ⟨(off b u e).1, hK, _, _, (off b u e).2⟩) (.inl (.inr ⟨_, at_a⟩)) fun b u e => ?_
    obtain ⟨rfl, rfl⟩ := off b u e
    exact ⟨ha, by rw [List.length_map]; exact hl, vs, _, rv, ha⟩
  · obtain ⟨o, ho⟩ := Option.ne_none_iff_exists'.mp hK
    have e := KX a o ho
    rw [ha] at e
    obtain rfl := Option.some.inj e
    exact go (fun _ => none) (fun b u z => nomatch (show (none : Option HO) = some u from z)) (.inr ⟨_, vs.toArray, _, ho, rfl, rfl, rfl, by rw [List.size_toArray, hi.length]; exact hl, by simpa using rv⟩) fun b u z => nomatch (show (none : Option HO) = some u from z)
theorem walkG {l : PySem.W.OpenLaw} {n k : Nat} {q : Program} {loose : List Str} {XP : (Str → Option Value) → Heap → Prop} {YP : World → Heap → Prop} {d : DefRec} {K : Params → PySem.W.Frag} {cx : World → CXT} {sp : World → Sp} {x : Str}
    (hn : l.most = some n) (hn2 : n ≤ sizeLine) (hdf : d.params.defaults = []) (hr : Room k callerA) (hY : ∀ (w : World) (h : Heap), YP w h → (K w.params).In h)
    (F : ∀ (w : World) (mg : Str → Option Value) (fa : Addr) (h : Heap), (K w.params).In h → h.Ns mainGlobals mg → mg d.name = some (.ref fa) →
      ∃ fd : FuncData, (∀ (s : Shared) (u : Value), BindsTo s fd ⟨[u], []⟩ [(x, u)]) ∧ ∀ base : Heap, (K w.params).In base → base.Ns mainGlobals mg → FnG l.prog w (K w.params) mg base (cx w) k fa fd [x] (sp w))
    (hsp : ∀ (w : World) (H : Hp) (a : Addr) (ns : List Int), ns.length ≤ n → SqL (K w.params) H a (ns.map V.int) → sp w [.ref a] H (fun v _ => v = .bl true) fun _ _ _ => False)
    (hcx : ∀ (w : World) (H : Hp) (s : Shared) (e : Value) (s' : Shared), cx w [] H s (fun _ _ _ => False) e s' → False) :
    PySem.W.WalkO q loose XP YP l.row.toRowW d [] (fun f vs => PySem.call f vs) := by
  refine Att.attach_call hn hdf ?_
  intro w s₀ s₁ mg mb fa o pm cd doc a vs ns G Y ho hd hcd hmg hobj hints hlen hg
  obtain ⟨fd, hb, hF⟩ := F w mg fa _ (hY w _ Y) G.T.g hmg
  exact law_callG (hY w _ Y) G.T.g G.T.b G.T.builtins G.T.nolimit hg hobj hints (Nat.le_trans hlen hn2) hr hF hb (fun H _ hS => hsp w H a ns hlen hS) fun H e s' => hcx w H s₁ e s'
end GX

namespace K2
open PySem PySem.Spec PyProof.Rows L2
def top (i : Nat) : Stmt := PySem.Challenge.pw_flatsheaves_k02_kinds.main.body.getD i (.Pass ⟨0, 0, 0, 0⟩)
abbrev s_added : Stmt := top 5
theorem sc_added : FnScope ["a", "b"] ["a", "b"] (defScope s_added) := ⟨rfl, rfl, rfl, by decide +kernel, rfl, by decide +kernel, by decide +kernel⟩
abbrev s_subtracted : Stmt := top 6
theorem sc_subtracted : FnScope ["a", "b"] ["a", "b"] (defScope s_subtracted) := ⟨rfl, rfl, rfl, by decide +kernel, rfl, by decide +kernel, by decide +kernel⟩
abbrev s_multiplied : Stmt := top 7
theorem sc_multiplied : FnScope ["a", "b"] ["a", "b"] (defScope s_multiplied) := ⟨rfl, rfl, rfl, by decide +kernel, rfl, by decide +kernel, by decide +kernel⟩
abbrev s_quotient : Stmt := top 8
theorem sc_quotient : FnScope ["a", "b"] ["a", "b"] (defScope s_quotient) := ⟨rfl, rfl, rfl, by decide +kernel, rfl, by decide +kernel, by decide +kernel⟩
abbrev s_remainder : Stmt := top 9
theorem sc_remainder : FnScope ["a", "b"] ["a", "b"] (defScope s_remainder) := ⟨rfl, rfl, rfl, by decide +kernel, rfl, by decide +kernel, by decide +kernel⟩
abbrev s_smaller : Stmt := top 10
theorem sc_smaller : FnScope ["a", "b"] ["a", "b"] (defScope s_smaller) := ⟨rfl, rfl, rfl, by decide +kernel, rfl, by decide +kernel, by decide +kernel⟩
abbrev s_larger : Stmt := top 11
theorem sc_larger : FnScope ["a", "b"] ["a", "b"] (defScope s_larger) := ⟨rfl, rfl, rfl, by decide +kernel, rfl, by decide +kernel, by decide +kernel⟩
abbrev s_is_less : Stmt := top 12
theorem sc_is_less : FnScope ["a", "b"] ["a", "b"] (defScope s_is_less) := ⟨rfl, rfl, rfl, by decide +kernel, rfl, by decide +kernel, by decide +kernel⟩
abbrev s_is_equal : Stmt := top 13
theorem sc_is_equal : FnScope ["a", "b"] ["a", "b"] (defScope s_is_equal) := ⟨rfl, rfl, rfl, by decide +kernel, rfl, by decide +kernel, by decide +kernel⟩
abbrev s_check : Stmt := top 18
theorem sc_check : FnScope ["program", "table", "signatures", "_", "name", "param", "body", "given", "result", "found"] ["program"] (defScope s_check) := ⟨rfl, rfl, rfl, by decide +kernel, rfl, by decide +kernel, by decide +kernel⟩
abbrev s_free_names : Stmt := top 19
theorem sc_free_names : FnScope ["e", "free", "bound", "action", "part"] ["e"] (defScope s_free_names) := ⟨rfl, rfl, rfl, by decide +kernel, rfl, by decide +kernel, by decide +kernel⟩
abbrev s_signatures_of : Stmt := top 20
theorem sc_signatures_of : FnScope ["program", "table", "signatures", "_", "name", "given", "result"] ["program", "table"] (defScope s_signatures_of) := ⟨rfl, rfl, rfl, by decide +kernel, rfl, by decide +kernel, by decide +kernel⟩
abbrev s_steps : Stmt := top 21
theorem sc_steps : FnScope ["e", "way", "waiting", "action", "part"] ["e"] (defScope s_steps) := ⟨rfl, rfl, rfl, by decide +kernel, rfl, by decide +kernel, by decide +kernel⟩
abbrev s_steps_inside : Stmt := top 22
theorem sc_steps_inside : FnScope ["e", "inside", "part"] ["e"] (defScope s_steps_inside) := ⟨rfl, rfl, rfl, by decide +kernel, rfl, by decide +kernel, by decide +kernel⟩
abbrev s_parts_of : Stmt := top 23
theorem sc_parts_of : FnScope ["e"] ["e"] (defScope s_parts_of) := ⟨rfl, rfl, rfl, by decide +kernel, rfl, by decide +kernel, by decide +kernel⟩
abbrev s_KindTable___init__ : Stmt := inClass (top 24) 0
theorem sc_KindTable___init__ : FnScope ["self"] ["self"] (defScope s_KindTable___init__) := ⟨rfl, rfl, rfl, by decide +kernel, rfl, by decide +kernel, by decide +kernel⟩
abbrev s_KindTable_number : Stmt := inClass (top 24) 1
theorem sc_KindTable_number : FnScope ["self", "shape"] ["self", "shape"] (defScope s_KindTable_number) := ⟨rfl, rfl, rfl, by decide +kernel, rfl, by decide +kernel, by decide +kernel⟩
abbrev s_KindTable_number_of : Stmt := inClass (top 24) 2
theorem sc_KindTable_number_of : FnScope ["self", "kind", "order", "waiting", "part", "done", "inner"] ["self", "kind"] (defScope s_KindTable_number_of) := ⟨rfl, rfl, rfl, by decide +kernel, rfl, by decide +kernel, by decide +kernel⟩
abbrev s_KindTable_pair : Stmt := inClass (top 24) 3
theorem sc_KindTable_pair : FnScope ["self", "first", "second"] ["self", "first", "second"] (defScope s_KindTable_pair) := ⟨rfl, rfl, rfl, by decide +kernel, rfl, by decide +kernel, by decide +kernel⟩
abbrev s_KindTable_seq : Stmt := inClass (top 24) 4
theorem sc_KindTable_seq : FnScope ["self", "element"] ["self", "element"] (defScope s_KindTable_seq) := ⟨rfl, rfl, rfl, by decide +kernel, rfl, by decide +kernel, by decide +kernel⟩
abbrev s_KindTable_parts : Stmt := inClass (top 24) 5
theorem sc_KindTable_parts : FnScope ["self", "kind", "form", "shape"] ["self", "kind", "form"] (defScope s_KindTable_parts) := ⟨rfl, rfl, rfl, by decide +kernel, rfl, by decide +kernel, by decide +kernel⟩
abbrev s_KindTable_element : Stmt := inClass (top 24) 6
theorem sc_KindTable_element : FnScope ["self", "kind"] ["self", "kind"] (defScope s_KindTable_element) := ⟨rfl, rfl, rfl, by decide +kernel, rfl, by decide +kernel, by decide +kernel⟩
abbrev s_KindTable_need : Stmt := inClass (top 24) 7
theorem sc_KindTable_need : FnScope ["self", "kind", "needed"] ["self", "kind", "needed"] (defScope s_KindTable_need) := ⟨rfl, rfl, rfl, by decide +kernel, rfl, by decide +kernel, by decide +kernel⟩
abbrev s_taken_off : Stmt := top 25
theorem sc_taken_off : FnScope ["stack", "many", "start", "taken"] ["stack", "many"] (defScope s_taken_off) := ⟨rfl, rfl, rfl, by decide +kernel, rfl, by decide +kernel, by decide +kernel⟩
abbrev s_BodyCheck___init__ : Stmt := inClass (top 26) 0
theorem sc_BodyCheck___init__ : FnScope ["self", "table", "signatures", "param", "given"] ["self", "table", "signatures", "param", "given"] (defScope s_BodyCheck___init__) := ⟨rfl, rfl, rfl, by decide +kernel, rfl, by decide +kernel, by decide +kernel⟩
abbrev s_BodyCheck_kind_of_body : Stmt := inClass (top 26) 1
theorem sc_BodyCheck_kind_of_body : FnScope ["self", "body", "action", "e"] ["self", "body"] (defScope s_BodyCheck_kind_of_body) := ⟨rfl, rfl, rfl, by decide +kernel, rfl, by decide +kernel, by decide +kernel⟩
abbrev s_BodyCheck_bind : Stmt := inClass (top 26) 2
theorem sc_BodyCheck_bind : FnScope ["self", "e", "kind"] ["self", "e"] (defScope s_BodyCheck_bind) := ⟨rfl, rfl, rfl, by decide +kernel, rfl, by decide +kernel, by decide +kernel⟩
abbrev s_BodyCheck_leave : Stmt := inClass (top 26) 3
theorem sc_BodyCheck_leave : FnScope ["self", "e", "parts"] ["self", "e"] (defScope s_BodyCheck_leave) := ⟨rfl, rfl, rfl, by decide +kernel, rfl, by decide +kernel, by decide +kernel⟩
abbrev s_BodyCheck_kind_of : Stmt := inClass (top 26) 4
theorem sc_BodyCheck_kind_of : FnScope ["self", "e", "parts", "form", "rule"] ["self", "e", "parts"] (defScope s_BodyCheck_kind_of) := ⟨rfl, rfl, rfl, by decide +kernel, rfl, by decide +kernel, by decide +kernel⟩
abbrev s_BodyCheck_kind_of_variable : Stmt := inClass (top 26) 5
theorem sc_BodyCheck_kind_of_variable : FnScope ["self", "name", "kinds"] ["self", "name"] (defScope s_BodyCheck_kind_of_variable) := ⟨rfl, rfl, rfl, by decide +kernel, rfl, by decide +kernel, by decide +kernel⟩
abbrev s_BodyCheck_kind_of_operation : Stmt := inClass (top 26) 6
theorem sc_BodyCheck_kind_of_operation : FnScope ["self", "sign", "parts", "part"] ["self", "sign", "parts"] (defScope s_BodyCheck_kind_of_operation) := ⟨rfl, rfl, rfl, by decide +kernel, rfl, by decide +kernel, by decide +kernel⟩
abbrev s_BodyCheck_kind_of_call : Stmt := inClass (top 26) 7
theorem sc_BodyCheck_kind_of_call : FnScope ["self", "name", "argument", "given", "result"] ["self", "name", "argument"] (defScope s_BodyCheck_kind_of_call) := ⟨rfl, rfl, rfl, by decide +kernel, rfl, by decide +kernel, by decide +kernel⟩
abbrev s_kind_of_let : Stmt := top 27
theorem sc_kind_of_let : FnScope ["table", "parts"] ["table", "parts"] (defScope s_kind_of_let) := ⟨rfl, rfl, rfl, by decide +kernel, rfl, by decide +kernel, by decide +kernel⟩
abbrev s_kind_of_if : Stmt := top 28
theorem sc_kind_of_if : FnScope ["table", "parts", "condition", "kind", "other"] ["table", "parts"] (defScope s_kind_of_if) := ⟨rfl, rfl, rfl, by decide +kernel, rfl, by decide +kernel, by decide +kernel⟩
abbrev s_kind_of_pair : Stmt := top 29
theorem sc_kind_of_pair : FnScope ["table", "parts"] ["table", "parts"] (defScope s_kind_of_pair) := ⟨rfl, rfl, rfl, by decide +kernel, rfl, by decide +kernel, by decide +kernel⟩
abbrev s_kind_of_first : Stmt := top 30
theorem sc_kind_of_first : FnScope ["table", "parts"] ["table", "parts"] (defScope s_kind_of_first) := ⟨rfl, rfl, rfl, by decide +kernel, rfl, by decide +kernel, by decide +kernel⟩
abbrev s_kind_of_second : Stmt := top 31
theorem sc_kind_of_second : FnScope ["table", "parts"] ["table", "parts"] (defScope s_kind_of_second) := ⟨rfl, rfl, rfl, by decide +kernel, rfl, by decide +kernel, by decide +kernel⟩
abbrev s_kind_of_each : Stmt := top 32
theorem sc_kind_of_each : FnScope ["table", "parts"] ["table", "parts"] (defScope s_kind_of_each) := ⟨rfl, rfl, rfl, by decide +kernel, rfl, by decide +kernel, by decide +kernel⟩
abbrev s_kind_of_iota : Stmt := top 33
theorem sc_kind_of_iota : FnScope ["table", "parts"] ["table", "parts"] (defScope s_kind_of_iota) := ⟨rfl, rfl, rfl, by decide +kernel, rfl, by decide +kernel, by decide +kernel⟩
abbrev s_kind_of_len : Stmt := top 34
theorem sc_kind_of_len : FnScope ["table", "parts"] ["table", "parts"] (defScope s_kind_of_len) := ⟨rfl, rfl, rfl, by decide +kernel, rfl, by decide +kernel, by decide +kernel⟩
abbrev s_kind_of_at : Stmt := top 35
theorem sc_kind_of_at : FnScope ["table", "parts"] ["table", "parts"] (defScope s_kind_of_at) := ⟨rfl, rfl, rfl, by decide +kernel, rfl, by decide +kernel, by decide +kernel⟩
abbrev s_kind_of_sum : Stmt := top 36
theorem sc_kind_of_sum : FnScope ["table", "parts"] ["table", "parts"] (defScope s_kind_of_sum) := ⟨rfl, rfl, rfl, by decide +kernel, rfl, by decide +kernel, by decide +kernel⟩
abbrev s_kind_of_flat : Stmt := top 37
theorem sc_kind_of_flat : FnScope ["table", "parts", "kind"] ["table", "parts"] (defScope s_kind_of_flat) := ⟨rfl, rfl, rfl, by decide +kernel, rfl, by decide +kernel, by decide +kernel⟩
abbrev s_kind_of_keep : Stmt := top 38
theorem sc_kind_of_keep : FnScope ["table", "parts", "kind", "marks"] ["table", "parts"] (defScope s_kind_of_keep) := ⟨rfl, rfl, rfl, by decide +kernel, rfl, by decide +kernel, by decide +kernel⟩
abbrev s_kind_of_append : Stmt := top 39
theorem sc_kind_of_append : FnScope ["table", "parts", "kind", "other"] ["table", "parts"] (defScope s_kind_of_append) := ⟨rfl, rfl, rfl, by decide +kernel, rfl, by decide +kernel, by decide +kernel⟩
abbrev s_law_state : Stmt := top 42
theorem sc_law_state : FnScope ["script", "seed", "cell"] ["script"] (defScope s_law_state) := ⟨rfl, rfl, rfl, by decide +kernel, rfl, by decide +kernel, by decide +kernel⟩
abbrev s_law_draw : Stmt := top 43
theorem sc_law_draw : FnScope ["state", "many", "cells", "value", "mixed"] ["state", "many"] (defScope s_law_draw) := ⟨rfl, rfl, rfl, by decide +kernel, rfl, by decide +kernel, by decide +kernel⟩
abbrev s_law_pick : Stmt := top 44
theorem sc_law_pick : FnScope ["state", "row"] ["state", "row"] (defScope s_law_pick) := ⟨rfl, rfl, rfl, by decide +kernel, rfl, by decide +kernel, by decide +kernel⟩
abbrev s_law_number : Stmt := top 45
theorem sc_law_number : FnScope ["state", "edges"] ["state"] (defScope s_law_number) := ⟨rfl, rfl, rfl, by decide +kernel, rfl, by decide +kernel, by decide +kernel⟩
abbrev s_law_kind : Stmt := top 46
theorem sc_law_kind : FnScope ["state", "deep", "choice"] ["state", "deep"] (defScope s_law_kind) := ⟨rfl, rfl, rfl, by decide +kernel, rfl, by decide +kernel, by decide +kernel⟩
abbrev s_law_vars : Stmt := top 48
theorem sc_law_vars : FnScope ["names", "kind", "name"] ["names", "kind"] (defScope s_law_vars) := ⟨rfl, rfl, rfl, by decide +kernel, rfl, by decide +kernel, by decide +kernel⟩
abbrev s_law_with : Stmt := top 49
theorem sc_law_with : FnScope ["names", "name", "kind", "more", "key"] ["names", "name", "kind"] (defScope s_law_with) := ⟨rfl, rfl, rfl, by decide +kernel, rfl, by decide +kernel, by decide +kernel⟩
abbrev s_law_seq : Stmt := top 50
theorem sc_law_seq : FnScope ["state", "program", "names", "kind", "deep", "choice", "s", "inner", "name"] ["state", "program", "names", "kind", "deep"] (defScope s_law_seq) := ⟨rfl, rfl, rfl, by decide +kernel, rfl, by decide +kernel, by decide +kernel⟩
abbrev s_law_num : Stmt := top 51
theorem sc_law_num : FnScope ["state", "program", "names", "deep", "choice", "sign", "first"] ["state", "program", "names", "deep"] (defScope s_law_num) := ⟨rfl, rfl, rfl, by decide +kernel, rfl, by decide +kernel, by decide +kernel⟩
abbrev s_law_leaf : Stmt := top 52
theorem sc_law_leaf : FnScope ["state", "names", "kind", "rows"] ["state", "names", "kind"] (defScope s_law_leaf) := ⟨rfl, rfl, rfl, by decide +kernel, rfl, by decide +kernel, by decide +kernel⟩
abbrev s_law_expr : Stmt := top 53
theorem sc_law_expr : FnScope ["state", "program", "names", "kind", "deep", "choice", "test", "first", "other", "name", "value", "s", "item", "rows", "word"] ["state", "program", "names", "kind", "deep"] (defScope s_law_expr) := ⟨rfl, rfl, rfl, by decide +kernel, rfl, by decide +kernel, by decide +kernel⟩
abbrev s_law_down : Stmt := top 54
theorem sc_law_down : FnScope ["n", "body"] [] (defScope s_law_down) := ⟨rfl, rfl, rfl, by decide +kernel, rfl, by decide +kernel, by decide +kernel⟩
abbrev s_law_turns : Stmt := top 55
theorem sc_law_turns : FnScope ["n", "rows", "name", "other", "last", "body"] [] (defScope s_law_turns) := ⟨rfl, rfl, rfl, by decide +kernel, rfl, by decide +kernel, by decide +kernel⟩
abbrev s_law_sorted : Stmt := top 56
theorem sc_law_sorted : FnScope ["v", "pivot", "parts", "sign", "same", "body", "whole"] [] (defScope s_law_sorted) := ⟨rfl, rfl, rfl, by decide +kernel, rfl, by decide +kernel, by decide +kernel⟩
abbrev s_law_program : Stmt := top 57
theorem sc_law_program : FnScope ["state", "deep", "program", "k", "given", "result", "body"] ["state", "deep"] (defScope s_law_program) := ⟨rfl, rfl, rfl, by decide +kernel, rfl, by decide +kernel, by decide +kernel⟩
abbrev s_law_told : Stmt := top 58
theorem sc_law_told : FnScope ["program", "e"] ["program"] (defScope s_law_told) := ⟨rfl, rfl, rfl, by decide +kernel, rfl, by decide +kernel, by decide +kernel⟩
abbrev s_law_bad : Stmt := top 59
theorem sc_law_bad : FnScope ["state", "good", "s", "p", "rows", "bad"] ["state", "good"] (defScope s_law_bad) := ⟨rfl, rfl, rfl, by decide +kernel, rfl, by decide +kernel, by decide +kernel⟩
abbrev s_law_free : Stmt := top 60
theorem sc_law_free : FnScope ["e", "rows", "part", "name"] ["e"] (defScope s_law_free) := ⟨rfl, rfl, rfl, by decide +kernel, rfl, by decide +kernel, by decide +kernel⟩
abbrev s_law : Stmt := top 61
theorem sc_law : FnScope ["script", "state", "program", "at", "item", "bad", "choice", "broken", "before", "inner", "e"] ["script"] (defScope s_law) := ⟨rfl, rfl, rfl, by decide +kernel, rfl, by decide +kernel, by decide +kernel⟩
/-! ### what stands where -/
structure DefAt (K : PySem.W.Frag) (mg : Str → Option Value) (x : Str) (st : Stmt) (ps : List Str) (f : Addr × FuncData) : Prop where
  F : Fun K x x st f.1 f.2
  g : mg x = some (.ref f.1)
  b : Binds K f.2 ps []
/-! the defs that draw programs -/
structure GAd where
  law_state : Addr × FuncData
  law_draw : Addr × FuncData
  law_pick : Addr × FuncData
  law_number : Addr × FuncData
  law_kind : Addr × FuncData
  law_vars : Addr × FuncData
  law_with : Addr × FuncData
  law_seq : Addr × FuncData
  law_num : Addr × FuncData
  law_leaf : Addr × FuncData
  law_expr : Addr × FuncData
  law_down : Addr × FuncData
  law_turns : Addr × FuncData
  law_sorted : Addr × FuncData
  law_program : Addr × FuncData
structure GTxt (K : PySem.W.Frag) (mg : Str → Option Value) (a : GAd) : Prop where
  law_state : DefAt K mg "_law_state" s_law_state ["script"] a.law_state
  law_draw : DefAt K mg "_law_draw" s_law_draw ["state", "many"] a.law_draw
  law_pick : DefAt K mg "_law_pick" s_law_pick ["state", "row"] a.law_pick
  law_number : DefAt K mg "_law_number" s_law_number ["state"] a.law_number
  law_kind : DefAt K mg "_law_kind" s_law_kind ["state", "deep"] a.law_kind
  law_vars : DefAt K mg "_law_vars" s_law_vars ["names", "kind"] a.law_vars
  law_with : DefAt K mg "_law_with" s_law_with ["names", "name", "kind"] a.law_with
  law_seq : DefAt K mg "_law_seq" s_law_seq ["state", "program", "names", "kind", "deep"] a.law_seq
  law_num : DefAt K mg "_law_num" s_law_num ["state", "program", "names", "deep"] a.law_num
  law_leaf : DefAt K mg "_law_leaf" s_law_leaf ["state", "names", "kind"] a.law_leaf
  law_expr : DefAt K mg "_law_expr" s_law_expr ["state", "program", "names", "kind", "deep"] a.law_expr
  law_down : DefAt K mg "_law_down" s_law_down [] a.law_down
  law_turns : DefAt K mg "_law_turns" s_law_turns [] a.law_turns
  law_sorted : DefAt K mg "_law_sorted" s_law_sorted [] a.law_sorted
  law_program : DefAt K mg "_law_program" s_law_program ["state", "deep"] a.law_program
  len : mg "len" = none
  abs : mg "abs" = none
  int : mg "int" = none
  min : mg "min" = none
  sorted : mg "sorted" = none
  range : mg "range" = none
  str : mg "str" = none
end K2

namespace K2
open PySem PySem.Spec PyProof.Rows L2
/-! ### kinds, expressions, functions -/
inductive Kd
  | num
  | pair (a b : Kd)
  | seq (a : Kd)
  deriving DecidableEq
inductive Ex
  | num (n : Int)
  | var (x : Str)
  | bnd (each : Bool) (x : Str) (a b : Ex)
  | op (s : Str) (a b : Ex)
  | call (f : Str) (a : Ex)
  | f1 (w : Str) (a : Ex)
  | f2 (w : Str) (a b : Ex)
  | ite (c a b : Ex)
structure Fn where
  name : Str
  param : Str
  given : Kd
  result : Kd
  body : Ex
abbrev Sg := List (Str × Kd × Kd)
abbrev Gm := Str → Option Kd
def Gm.put (G : Gm) (x : Str) (k : Kd) : Gm := fun y => if y = x then some k else G y
def find (S : Sg) (f : Str) : Option (Kd × Kd) := (S.find? fun p => decide (p.1 = f)).map (·.2)
def sgns : List Str := ["+", "-", "*", "/", "mod", "min", "max", "<", "="]
def ty1 (w : Str) : Kd → Option Kd
  | .num => if w = "iota" then some (.seq .num) else none
  | .pair a b => if w = "first" then some a else if w = "second" then some b else none
  | .seq a => if w = "len" then some .num else if w = "sum" then (if a = .num then some .num else none) else if w = "flat" then (match a with | .seq b => some (.seq b) | _ => none) else none
def ty2 (w : Str) (k l : Kd) : Option Kd :=
  if w = "pair" then some (.pair k l)
  else match k with
    | .seq a => if w = "at" then (if l = .num then some a else none) else if w = "keep" then (if l = .seq .num then some k else none) else if w = "append" then (if l = k then some k else none) else none
    | _ => none
def ty (S : Sg) : Gm → Ex → Option Kd
  | _, .num _ => some .num
  | G, .var x => G x
  | G, .bnd false x a b => match ty S G a with
    | some k => ty S (G.put x k) b
    | none => none
  | G, .bnd true x a b => match ty S G a with
    | some (.seq k) => (ty S (G.put x k) b).map .seq
    | _ => none
  | G, .op s a b => if s ∈ sgns ∧ ty S G a = some .num ∧ ty S G b = some .num then some .num else none
  | G, .call f a => match find S f with
    | some (g, r) => if ty S G a = some g then some r else none
    | none => none
  | G, .f1 w a => match ty S G a with
    | some k => ty1 w k
    | none => none
  | G, .f2 w a b => match ty S G a, ty S G b with
    | some k, some l => ty2 w k l
    | _, _ => none
  | G, .ite c a b => if ty S G c = some .num then (match ty S G a with
    | some k => if ty S G b = some k then some k else none
    | none => none) else none
def Kd.dep : Kd → Nat
  | .num => 1
  | .pair a b => max a.dep b.dep + 1
  | .seq a => a.dep + 1
/-- a number of the range -/
def InR (n : Int) : Prop := -2147483648 ≤ n ∧ n ≤ 2147483647
/-- the names that are bound -/
def shorts : List Str := ["i", "k", "x", "y", "a", "p", "q", "r", "z", "v", "n"]
/-- a number that is not of the range, a name that is not among these: far too deep -/
def nsw (n : Int) : Nat := if -2147483648 ≤ n ∧ n ≤ 2147483647 then 1 else 1000000
def nmw (x : Str) : Nat := if x ∈ shorts then 0 else 1000000
theorem nsw_of {n : Int} (h : InR n) : nsw n = 1 := if_pos h
theorem nmw_of {x : Str} (h : x ∈ shorts) : nmw x = 0 := if_pos h
theorem nsw_pos (n : Int) : 1 ≤ nsw n := by unfold nsw; split <;> decide
theorem nsw_in {n : Int} (h : nsw n < 1000000) : InR n := by
  unfold nsw at h
  split at h
  · rename_i c; exact c
  · exact absurd h (by decide)
theorem nmw_in {x : Str} (h : nmw x < 1000000) : x ∈ shorts := by
  unfold nmw at h
  split at h
  · rename_i c; exact c
  · exact absurd h (by decide)
def Ex.dep : Ex → Nat
  | .num n => nsw n
  | .var _ => 1
  | .bnd _ x a b => nmw x + max a.dep b.dep + 1
  | .op _ a b | .f2 _ a b => max a.dep b.dep + 1
  | .call _ a | .f1 _ a => a.dep + 1
  | .ite c a b => max c.dep (max a.dep b.dep) + 1
def Ex.sz : Ex → Nat
  | .num _ | .var _ => 1
  | .bnd _ _ a b | .op _ a b | .f2 _ a b => a.sz + b.sz + 1
  | .call _ a | .f1 _ a => a.sz + 1
  | .ite c a b => c.sz + a.sz + b.sz + 1
/-! ### where they stand -/
def bw (each : Bool) : Str := if each then "each" else "let"
def KdAt (H : Hp) : Kd → V → Prop
  | .num, v => ∃ a, v = .ref a ∧ H a = some (.tup [.str "num"])
  | .pair k l, v => ∃ a u w, v = .ref a ∧ H a = some (.tup [.str "pair", u, w]) ∧ KdAt H k u ∧ KdAt H l w
  | .seq k, v => ∃ a u, v = .ref a ∧ H a = some (.tup [.str "seq", u]) ∧ KdAt H k u
def ExAt (H : Hp) : Ex → V → Prop
  | .num n, v => ∃ a, v = .ref a ∧ H a = some (.tup [.str "num", .int n])
  | .var x, v => ∃ a, v = .ref a ∧ H a = some (.tup [.str "var", .str x])
  | .bnd e x p q, v => ∃ a u w, v = .ref a ∧ H a = some (.tup [.str (bw e), .str x, u, w]) ∧ ExAt H p u ∧ ExAt H q w
  | .op s p q, v => ∃ a u w, v = .ref a ∧ H a = some (.tup [.str "op", .str s, u, w]) ∧ ExAt H p u ∧ ExAt H q w
  | .call f p, v => ∃ a u, v = .ref a ∧ H a = some (.tup [.str "call", .str f, u]) ∧ ExAt H p u
  | .f1 w p, v => ∃ a u, v = .ref a ∧ H a = some (.tup [.str w, u]) ∧ ExAt H p u
  | .f2 w p q, v => ∃ a u y, v = .ref a ∧ H a = some (.tup [.str w, u, y]) ∧ ExAt H p u ∧ ExAt H q y
  | .ite c p q, v => ∃ a t u y, v = .ref a ∧ H a = some (.tup [.str "if", t, u, y]) ∧ ExAt H c t ∧ ExAt H p u ∧ ExAt H q y
def FnAt (H : Hp) (f : Fn) (v : V) : Prop := ∃ a u w b, v = .ref a ∧ H a = some (.tup [.str "function", .str f.name, .str f.param, u, w, b]) ∧ KdAt H f.given u ∧ KdAt H f.result w ∧ ExAt H f.body b
/-- tuples stay -/
def Kt (H H' : Hp) : Prop := ∀ b xs, H b = some (.tup xs) → H' b = some (.tup xs)
theorem Kt.of {H H' : Hp} (k : Same H H') : Kt H H' := fun b xs e => k b _ e
theorem KdAt.kt {H H' : Hp} (t : Kt H H') : ∀ {k : Kd} {v : V}, KdAt H k v → KdAt H' k v
  | .num, _, ⟨a, e, h⟩ => ⟨a, e, t _ _ h⟩
  | .pair _ _, _, ⟨a, u, w, e, h, x, y⟩ => ⟨a, u, w, e, t _ _ h, x.kt t, y.kt t⟩
  | .seq _, _, ⟨a, u, e, h, x⟩ => ⟨a, u, e, t _ _ h, x.kt t⟩
theorem ExAt.kt {H H' : Hp} (t : Kt H H') : ∀ {k : Ex} {v : V}, ExAt H k v → ExAt H' k v
  | .num _, _, ⟨a, e, h⟩ => ⟨a, e, t _ _ h⟩
  | .var _, _, ⟨a, e, h⟩ => ⟨a, e, t _ _ h⟩
  | .bnd _ _ _ _, _, ⟨a, u, w, e, h, x, y⟩ => ⟨a, u, w, e, t _ _ h, x.kt t, y.kt t⟩
  | .op _ _ _, _, ⟨a, u, w, e, h, x, y⟩ => ⟨a, u, w, e, t _ _ h, x.kt t, y.kt t⟩
  | .f2 _ _ _, _, ⟨a, u, w, e, h, x, y⟩ => ⟨a, u, w, e, t _ _ h, x.kt t, y.kt t⟩
  | .call _ _, _, ⟨a, u, e, h, x⟩ => ⟨a, u, e, t _ _ h, x.kt t⟩
  | .f1 _ _, _, ⟨a, u, e, h, x⟩ => ⟨a, u, e, t _ _ h, x.kt t⟩
  | .ite _ _ _, _, ⟨a, c, u, w, e, h, z, x, y⟩ => ⟨a, c, u, w, e, t _ _ h, z.kt t, x.kt t, y.kt t⟩
theorem FnAt.kt {H H' : Hp} (t : Kt H H') {f : Fn} {v : V} : FnAt H f v → FnAt H' f v
  | ⟨a, u, w, b, e, h, x, y, z⟩ => ⟨a, u, w, b, e, t _ _ h, x.kt t, y.kt t, z.kt t⟩
/-- kinds as data -/
def Kd.d : Kd → PyData
  | .num => .tuple [.str "num"]
  | .pair a b => .tuple [.str "pair", a.d, b.d]
  | .seq a => .tuple [.str "seq", a.d]
theorem KdAt.dp {K : PySem.W.Frag} {H : Hp} : ∀ {k : Kd} {v : V}, KdAt H k v → Dp K H v k.d
  | .num, _, ⟨a, e, h⟩ => by rw [e]; exact .tup (.inl (.inl h)) (.cons (.str _) .nil)
  | .pair k l, _, ⟨a, u, w, e, h, x, y⟩ => by rw [e]; exact .tup (.inl (.inl h)) (.cons (.str _) (.cons x.dp (.cons y.dp .nil)))
  | .seq k, _, ⟨a, u, e, h, x⟩ => by rw [e]; exact .tup (.inl (.inl h)) (.cons (.str _) (.cons x.dp .nil))
theorem Kd.lay : ∀ k : Kd, PyData.canLay0 k.d = true
  | .num => by decide +kernel
  | .pair a b => by
    show (PyData.canLay0 (.str "pair") && (PyData.canLay0 a.d && (PyData.canLay0 b.d && true))) = true
    rw [a.lay, b.lay]; decide +kernel
  | .seq a => by
    show (PyData.canLay0 (.str "seq") && (PyData.canLay0 a.d && true)) = true
    rw [a.lay]; decide +kernel
theorem Kd.depth_d : ∀ k : Kd, k.d.depth ≤ k.dep
  | .num => by decide +kernel
  | .pair a b => by
    show max 0 (max a.d.depth (max b.d.depth 0)) + 1 ≤ _
    have := a.depth_d
    have := b.depth_d
    simp only [Kd.dep]
    omega
  | .seq a => by
    show max 0 (max a.d.depth 0) + 1 ≤ _
    have := a.depth_d
    simp only [Kd.dep]
    omega
theorem Kd.shaped {k : Kd} (h : k.dep ≤ 64) : SeqAt.shaped k.d = true := by
  unfold SeqAt.shaped
  rw [k.lay, decide_eq_true (Nat.le_trans k.depth_d h)]
  rfl
theorem Kd.eqv : ∀ k l : Kd, PyData.eqv k.d l.d = decide (k = l)
  | .num, .num => by decide +kernel
  | .num, .pair _ _ => rfl
  | .num, .seq _ => by simp [Kd.d, PyData.eqv, PyData.eqvAll]
  | .pair _ _, .num => rfl
  | .seq _, .num => by simp [Kd.d, PyData.eqv, PyData.eqvAll]
  | .pair _ _, .seq _ => by simp [Kd.d, PyData.eqv, PyData.eqvAll]
  | .seq _, .pair _ _ => by simp [Kd.d, PyData.eqv, PyData.eqvAll]
  | .seq a, .seq b => by
    have e := Kd.eqv a b
    simp [Kd.d, PyData.eqv, PyData.eqvAll, e]
  | .pair a b, .pair x y => by
    have e := Kd.eqv a x
    have e2 := Kd.eqv b y
    simp [Kd.d, PyData.eqv, PyData.eqvAll, e, e2]
end K2

namespace K2
open PySem PySem.Spec PyProof.Rows L2
section
variable {P : Program} {w : World} {K : PySem.W.Frag} {mg : Str → Option Value} {base : Heap} {a : GAd}
/-! ### what is drawn -/
def StAt (H : Hp) (st c : Addr) : Prop := ∃ (ns : List Int) (z : Int), H st = some (.lst [.ref c, .int z]) ∧ H c = some (.lst (ns.map V.int))
theorem StAt.ne {H : Hp} {st c : Addr} (h : StAt H st c) : st ≠ c := by
  obtain ⟨ns, z, h1, h2⟩ := h
  refine ne_of h1 h2 fun e => ?_
  cases ns with
  | nil => cases e
  | cons x r => cases e
def Go (st c : Addr) (H H' : Hp) : Prop := (∀ b o, b ≠ st → b ≠ c → H b = some o → H' b = some o) ∧ StAt H' st c
theorem Go.trans {st c : Addr} {H H1 H2 : Hp} (x : Go st c H H1) (y : Go st c H1 H2) : Go st c H H2 := ⟨fun b o h1 h2 e => y.1 b o h1 h2 (x.1 b o h1 h2 e), y.2⟩
theorem same_new {H : Hp} {p : Addr} (h : H p = none) (o : HO) : Same H (upd H p o) := fun b u q => by rw [upd_ne (ne_of_none q h)]; exact q
theorem StAt.keep {H H' : Hp} {st c : Addr} (h : StAt H st c) (k : Same H H') : StAt H' st c := by
  obtain ⟨ns, z, h1, h2⟩ := h
  exact ⟨ns, z, k _ _ h1, k _ _ h2⟩
theorem Go.same {st c : Addr} {H H1 : Hp} (h : StAt H st c) (k : Same H H1) : Go st c H H1 := ⟨fun b o _ _ e => k b o e, h.keep k⟩
theorem ifF {c : Bool} {A B : Prop} (h : c = false) (q : B) : if c = true then A else B := by rw [h]; exact iteF q
theorem ifT {c : Bool} {A B : Prop} (h : c = true) (q : A) : if c = true then A else B := by rw [h]; exact iteT q
theorem int_at {ns : List Int} {i : Nat} {y : V} (h : (ns.map V.int)[i]? = some y) : i < ns.length ∧ ∃ u, y = V.int u := by
  rw [List.getElem?_map] at h
  cases e : ns[i]? with
  | none => rw [e] at h; cases h
  | some u =>
    rw [e] at h
    exact ⟨(List.getElem?_eq_some_iff.mp e).1, u, (Option.some.inj h).symm⟩
def spState (K : PySem.W.Frag) : Sp := fun vs H Q _ => ∃ (p : Addr) (ns : List Int), vs = [.ref p] ∧ SqL K H p (ns.map V.int) ∧ ns.length ≤ 63 ∧ ∀ H' st c, Same H H' → H st = none → H c = none → StAt H' st c → Q (.ref st) H'
theorem ok_law_state (T : GTxt K mg a) : FnOk P w K mg base CX0 1 a.law_state.1 a.law_state.2 ["script"] (spState K) := by
  refine T.law_state.F.ok sc_law_state (fun vs H Q E h => ?_) (fun cdv A outer s H vs Q E hr h => ?_)
  · obtain ⟨p, ns, rfl, _⟩ := h
    rfl
  obtain ⟨p, ns, rfl, hS, h63, q⟩ := h
  have nd := sc_law_state.nd
  refine ⟨_, (pss_cons (ps_set (i := 1) nd rfl (Or.inl rfl) pe_int)
  (pss_cons (ps_for PassesOwn.never rfl (pi_list (pv 0)) (pg_name (i := 2) nd rfl (Or.inl rfl)) (pss_one (ps_set (i := 1) nd rfl (Or.inl rfl) (pe_op op_mod (pe_callTy call_int1 (by rfl) T.int (by decide +kernel) (pa_cons (pe_op op_add (pe_op op_mul (pv 1) pe_int) (pv 2)) pa_nil)) pe_int))))
  (pss_one (ps_ret (pe_lst (pa_cons (pe_lc (own := [("cell", 2)]) (g := gName 2) (tt := tYes) rfl nd (pi_list (pv 0)) (blkOk_by (N := ["script", "seed", "cell"]) (sc := defScope s_law_state) (by decide +kernel)) (fun _ _ _ _ _ => (pg_name (i := 2) nd rfl (Or.inl rfl))) (fun _ _ _ _ _ => pts_nil) (fun _ _ _ _ _ => (pe_callB call_abs (by rfl) T.abs (by decide +kernel) (pa_cons (pe_callTy call_int1 (by rfl) T.int (by decide +kernel) (pa_cons (pv 2) pa_nil)) pa_nil)))) (pa_cons (pe_op op_add (pv 1) pe_int) pa_nil))))))), ?_⟩
  refine ⟨_, rfl, p, rfl, ⟨_, hS⟩, for_list (K := K) (a := p) (xs := ns.map V.int) (fun i σ H' => H' = H ∧ ∃ (z : Int) (v : Option V), σ = [some (.ref p), some (.int z), v]) ⟨rfl, 7, none, rfl⟩ (fun i σ H' _ h => by rw [h.1]; exact hS) ?_ ?_⟩
  · rintro i y σ H' hi ⟨rfl, z, v, rfl⟩
    obtain ⟨_, u, rfl⟩ := int_at hi
    exact ⟨_, rfl, _, _, rfl, rfl, .inr (by decide), _, rfl, _, _, rfl, rfl, .inl ⟨_, rfl, _, _, rfl, rfl, (by show (0 : Int) < 1000003; decide), rfl, _, _, rfl⟩⟩
  · rintro σ H' ⟨rfl, z, v, rfl⟩
    refine ⟨_, rfl, p, rfl, ⟨_, hS⟩, fun D hD => lc_list (K := K) (a := p) (xs := ns.map V.int) (fun i H1 => ∃ acc : List Int, H1 = upd H' D (.lst (acc.map V.int)) ∧ acc.length = i) ⟨[], rfl, rfl⟩ (fun i H1 _ h => ?_) ?_ ?_⟩
    · obtain ⟨acc, rfl, _⟩ := h
      exact (same_new hD _).seq hS
    · rintro i y H1 hi ⟨acc, rfl, hl⟩
      obtain ⟨hi63, u, rfl⟩ := int_at hi
      refine ⟨rfl, _, rfl, .inl ⟨_, rfl, _, rfl, _, upd_same, ?_, acc ++ [if u < 0 then -u else u], ?_, ?_⟩⟩
      · rw [List.length_map]; exact small1000 (by omega)
      · rw [List.map_append, upd_upd]; rfl
      · rw [List.length_append, hl]; rfl
    · rintro H1 ⟨acc, rfl, _⟩
      refine ⟨_, rfl, _, _, rfl, rfl, (by show 2 ≤ sizeLine; decide), fun st hst => ?_⟩
      have hst0 : H' st = none := (same_new hD _).free hst
      refine q _ st D ((same_new hD _).trans (same_new hst _)) hst0 hD ⟨acc, z + 1, upd_same, ?_⟩
      rw [upd_ne (ne_of_none upd_same hst)]
      exact upd_same
def spDraw : Sp := fun vs H Q _ => ∃ (st c : Addr) (m : Int), vs = [.ref st, .int m] ∧ StAt H st c ∧ 0 < m ∧ m < 1099511627776 ∧ ∀ H' n, Go st c H H' → 0 ≤ n → n < m → Q (.int n) H'
theorem ok_law_draw (T : GTxt K mg a) : FnOk P w K mg base CX0 1 a.law_draw.1 a.law_draw.2 ["state", "many"] spDraw := by
  refine T.law_draw.F.ok sc_law_draw (fun vs H Q E h => ?_) (fun cdv A outer s H vs Q E hr h => ?_)
  · obtain ⟨st, c, m, rfl, _⟩ := h
    rfl
  obtain ⟨st, c, m, rfl, hSt, h0, hm, q⟩ := h
  have nd := sc_law_draw.nd
  have hne := hSt.ne
  obtain ⟨ns, z, h1, h2⟩ := hSt
  refine ⟨_, (pss_cons (ps_set (i := 2) nd rfl (Or.inl rfl) (pe_ix ix_list (pv 0) pe_int (fun _ _ => rfl)))
  (pss_cons (ps_while PassesOwn.never (PW.pt (pw_and (pt_cmpR op_gt (pe_callB call_len_seq (by rfl) T.len PySem.boot_len (pa_cons (pv 2) pa_nil)) pe_int (nomark _)) (pw_and1 (pt_cmpR op_eq (pe_ix ix_list (pv 2) pe_int (fun _ _ => rfl)) pe_int (nomark _))))) (pss_one (ps_expr (pe_bm PySem.F.plainAttrs_list PySem.F.slot_list_pop PySem.F.type_list_pop mt_popAt (pv 2) (pa_cons pe_int pa_nil)))))
  (pss_cons (ps_if (pt_cmpR op_gt (pe_callB call_len_seq (by rfl) T.len PySem.boot_len (pa_cons (pv 2) pa_nil)) pe_int (nomark _)) (pss_cons (ps_set (i := 3) nd rfl (Or.inl rfl) (pe_ix ix_list (pv 2) pe_int (fun _ _ => rfl)))
  (pss_cons (ps_asg (pe_op op_fdivW (pv 3) (pv 1)) (pg_sub (pv 2) pe_int set_list))
  (pss_one (ps_ret (pe_op op_mod (pe_callTy call_int1 (by rfl) T.int (by decide +kernel) (pa_cons (pv 3) pa_nil)) (pv 1)))))) pss_nil)
  (pss_cons (ps_set (i := 4) nd rfl (Or.inl rfl) (pe_op op_mod (pe_callTy call_int1 (by rfl) T.int (by decide +kernel) (pa_cons (pe_op op_add (pe_op op_mul (pe_ix ix_list (pv 0) pe_int (fun _ _ => rfl)) pe_int) pe_int) pa_nil)) pe_int))
  (pss_cons (ps_asg (pv 4) (pg_sub (pv 0) pe_int set_list))
  (pss_one (ps_ret (pe_op op_mod (pe_callTy call_int1 (by rfl) T.int (by decide +kernel) (pa_cons (pe_op op_fdiv (pv 4) pe_int) pa_nil)) (pv 1))))))))), ?_⟩
  refine ⟨_, rfl, st, _, _, _, rfl, rfl, SqL.of h1, rfl, ?_⟩
  refine ⟨fun k σ H' => ∃ ns' : List Int, σ = [some (.ref st), some (.int m), some (.ref c), none, none] ∧ k = ns'.length ∧ H' st = some (.lst [.ref c, .int z]) ∧ H' c = some (.lst (ns'.map V.int)) ∧ (∀ b o, b ≠ st → b ≠ c → H b = some o → H' b = some o), ⟨ns.length, ns, rfl, rfl, h1, h2, fun _ _ _ _ e => e⟩, ?_⟩
  rintro k σ H' ⟨ns', rfl, rfl, g1, g2, g3⟩
  have fin : ∀ (ns2 : List Int) (z2 : Int) (H2 : Hp), H2 st = some (.lst [.ref c, .int z2]) → H2 c = some (.lst (ns2.map V.int)) → (∀ b o, b ≠ st → b ≠ c → H' b = some o → H2 b = some o) → Go st c H H2 := fun ns2 z2 H2 e1 e2 e3 => ⟨fun b o n1 n2 e => e3 b o n1 n2 (g3 b o n1 n2 e), ns2, z2, e1, e2⟩
  refine ⟨_, rfl, c, _, rfl, .inl (SqL.of g2), _, _, rfl, rfl, _, rfl, ?_⟩
  cases ns' with
  | nil =>
    refine ifF (by rw [List.map_nil]; decide) ?_
    refine ifF rfl ?_
    refine ⟨_, rfl, c, _, rfl, .inl (SqL.of g2), _, _, rfl, rfl, _, rfl, ?_⟩
    refine ifF (by rw [List.map_nil]; decide) ?_
    refine ⟨_, rfl, st, _, _, _, rfl, rfl, SqL.of g1, rfl, _, _, rfl, rfl, .inr (by decide), _, _, rfl, rfl, .inl ⟨_, rfl, _, _, rfl, rfl, (by show (0 : Int) < 2147483647; decide), ?_⟩⟩
    refine ⟨_, rfl, _, rfl, st, _, _, _, rfl, rfl, g1, rfl, ?_⟩
    refine ⟨_, rfl, _, _, rfl, rfl, (by constructor <;> decide), .inl ⟨_, rfl, _, rfl, _, _, rfl, rfl, h0, ?_⟩⟩
    refine q _ _ (fin [] _ _ upd_same ?_ fun b o n1 _ e => ?_) (Int.emod_nonneg _ (by omega)) (Int.emod_lt_of_pos _ h0)
    · rw [upd_ne hne.symm]; exact g2
    · rw [upd_ne n1]; exact e
  | cons x r =>
    refine ifT (by rw [List.length_map]; exact decide_eq_true (by simp)) ?_
    refine ⟨_, rfl, c, _, _, _, rfl, rfl, SqL.of g2, atI_nat (j := 0) rfl, rfl, _, rfl, ?_⟩
    refine ite2 (fun _ => ?_) (fun _ => ?_)
    · refine ⟨fun σ' H2 => ∃ ns2 : List Int, σ' = [some (.ref st), some (.int m), some (.ref c), none, none] ∧ ns2.length = r.length ∧ H2 st = some (.lst [.ref c, .int z]) ∧ H2 c = some (.lst (ns2.map V.int)) ∧ (∀ b o, b ≠ st → b ≠ c → H b = some o → H2 b = some o), ?_, ?_⟩
      · rintro σ' H2 ⟨ns2, e1, e2, e3⟩
        exact ⟨r.length, by rw [List.length_cons]; omega, ns2, e1, e2.symm, e3⟩
      · refine ⟨_, rfl, .inl ⟨rfl, _, SqL.of g2⟩, c, _, _, 0, _, rfl, rfl, g2, by decide, by decide, ?_, rfl, ?_⟩
        · rw [List.length_map, List.length_cons]
          unfold seqIndex?
          simp
        · refine ⟨r, rfl, rfl, ?_, upd_same, fun b o n1 n2 e => ?_⟩
          · rw [upd_ne hne]; exact g1
          · rw [upd_ne n2]; exact g3 b o n1 n2 e
    · refine ⟨_, rfl, c, _, rfl, .inl (SqL.of g2), _, _, rfl, rfl, _, rfl, ?_⟩
      refine ifT (by rw [List.length_map]; exact decide_eq_true (by simp)) ?_
      refine ⟨_, rfl, c, _, _, _, rfl, rfl, SqL.of g2, atI_nat (j := 0) rfl, ?_⟩
      refine ⟨_, rfl, _, rfl, _, _, rfl, rfl, wide_div (b := 40) h0 (by omega) (by decide) (by decide), ?_⟩
      refine ⟨_, rfl, c, _, _, 0, rfl, rfl, g2, by rw [List.length_map, List.length_cons]; simp [ixN], ?_⟩
      refine ⟨_, rfl, .inl ⟨_, rfl, _, rfl, _, _, rfl, rfl, h0, ?_⟩⟩
      refine q _ _ (fin (x / m :: r) z _ ?_ upd_same fun b o _ n2 e => ?_) (Int.emod_nonneg _ (by omega)) (Int.emod_lt_of_pos _ h0)
      · rw [upd_ne hne]; exact g1
      · rw [upd_ne n2]; exact e
def spPick : Sp := fun vs H Q _ => ∃ (st c r : Addr) (xs : List V), vs = [.ref st, .ref r] ∧ StAt H st c ∧ H r = some (.lst xs) ∧ r ≠ st ∧ r ≠ c ∧ 0 < xs.length ∧ xs.length ≤ 1000 ∧ ∀ H' x, Go st c H H' → x ∈ xs → Q x H'
theorem ok_law_pick (T : GTxt K mg a) : FnOk P w K mg base CX0 2 a.law_pick.1 a.law_pick.2 ["state", "row"] spPick := by
  refine T.law_pick.F.ok sc_law_pick (fun vs H Q E h => ?_) (fun cdv A outer s H vs Q E hr h => ?_)
  · obtain ⟨st, c, r, xs, rfl, _⟩ := h
    rfl
  obtain ⟨st, c, r, xs, rfl, hSt, hx, n1, n2, l0, l1, q⟩ := h
  have G_law_draw := ok_law_draw (P := P) (w := w) (base := base) T
  refine ⟨_, (pss_one (ps_ret (pe_ix ix_list (pv 1) (pe_call G_law_draw (hr.mono (by decide)) rfl T.law_draw.g T.law_draw.F.kp T.law_draw.b .nil pass0 (pa_cons (pv 0) (pa_cons (pe_callB call_len_seq (by rfl) T.len PySem.boot_len (pa_cons (pv 1) pa_nil)) pa_nil))) (fun _ _ => rfl)))), ?_⟩
  refine ⟨_, rfl, _, rfl, _, rfl, r, _, rfl, .inl (SqL.of hx), st, c, _, rfl, hSt, by omega, by omega, fun H' n g h0 h1 => ?_⟩
  have hk : n.toNat < xs.length := by omega
  have ek : n = ((n.toNat : Nat) : Int) := by omega
  refine ⟨r, xs, n, xs[n.toNat], rfl, rfl, SqL.of (g.1 _ _ n1 n2 hx), ?_, q _ _ g (List.getElem_mem hk)⟩
  have e : atI xs ((n.toNat : Nat) : Int) = some xs[n.toNat] := atI_nat (List.getElem?_eq_getElem hk)
  rw [← ek] at e
  exact e
def spNumber : Sp := fun vs H Q _ => ∃ (st c : Addr), vs = [.ref st] ∧ StAt H st c ∧ ∀ H' n, Go st c H H' → InR n → Q (.int n) H'
theorem ok_law_number (T : GTxt K mg a) : FnOk P w K mg base CX0 3 a.law_number.1 a.law_number.2 ["state"] spNumber := by
  refine T.law_number.F.ok sc_law_number (fun vs H Q E h => ?_) (fun cdv A outer s H vs Q E hr h => ?_)
  · obtain ⟨st, c, rfl, _⟩ := h
    rfl
  obtain ⟨st, c, rfl, hSt, q⟩ := h
  have G_law_draw := ok_law_draw (P := P) (w := w) (base := base) T
  have G_law_pick := ok_law_pick (P := P) (w := w) (base := base) T
  have nd := sc_law_number.nd
  refine ⟨_, (pss_cons (ps_set (i := 1) nd rfl (Or.inl rfl) (pe_lst (pa_cons pe_int (pa_cons (pe_un un_neg pe_int) (pa_cons pe_int (pa_cons (pe_un un_neg pe_int) (pa_cons pe_int pa_nil)))))))
  (pss_cons (ps_if (pt_cmpR op_eq (pe_call G_law_draw (hr.mono (by decide)) rfl T.law_draw.g T.law_draw.F.kp T.law_draw.b .nil pass0 (pa_cons (pv 0) (pa_cons pe_int pa_nil))) pe_int (nomark _)) (pss_one (ps_ret (pe_call G_law_pick (hr.mono (by decide)) rfl T.law_pick.g T.law_pick.F.kp T.law_pick.b .nil pass0 (pa_cons (pv 0) (pa_cons (pv 1) pa_nil))))) pss_nil)
  (pss_one (ps_ret (pe_op op_sub (pe_call G_law_draw (hr.mono (by decide)) rfl T.law_draw.g T.law_draw.F.kp T.law_draw.b .nil pass0 (pa_cons (pv 0) (pa_cons pe_int pa_nil))) pe_int))))), ?_⟩
  refine ⟨_, rfl, _, rfl, (by show 5 ≤ sizeLine; decide), fun p hp => ?_⟩
  have hSt1 := hSt.keep (same_new hp (.lst [.int 0, .int (-1), .int 2147483647, .int (-2147483648), .int 65536]))
  have g0 := Go.same hSt (same_new hp (.lst [.int 0, .int (-1), .int 2147483647, .int (-2147483648), .int 65536]))
  obtain ⟨_, _, a1, a2⟩ := id hSt
  have n1 : p ≠ st := (ne_of_none a1 hp).symm
  have n2 : p ≠ c := (ne_of_none a2 hp).symm
  refine ⟨_, rfl, st, c, _, rfl, hSt1, by decide, by decide, fun H2 n g2 h0 h1 => ?_⟩
  refine ⟨rfl, _, rfl, ?_⟩
  refine ite2 (fun _ => ?_) (fun _ => ?_)
  · refine ⟨_, rfl, _, rfl, st, c, p, _, rfl, g2.2, g2.1 _ _ n1 n2 upd_same, n1, n2, by decide, by decide, fun H3 x g3 hx => ?_⟩
    have g := (g0.trans g2).trans g3
    simp only [List.mem_cons, List.not_mem_nil, or_false] at hx
    rcases hx with rfl | rfl | rfl | rfl | rfl <;> exact q _ _ g (by unfold InR; omega)
  · refine ⟨_, rfl, st, c, _, rfl, g2.2, by decide, by decide, fun H3 x g3 h0 h1 => ?_⟩
    exact ⟨_, _, rfl, rfl, q _ _ ((g0.trans g2).trans g3) (by unfold InR; omega)⟩
end
end K2

namespace K2
open PySem PySem.Spec PyProof.Rows L2
theorem Go.kt {st c : Addr} {H H' : Hp} (h : StAt H st c) (g : Go st c H H') : Kt H H' := fun b xs e => by
  obtain ⟨ns, z, h1, h2⟩ := h
  refine g.1 b _ (fun n => ?_) (fun n => ?_) e
  · rw [n, h1] at e; cases e
  · rw [n, h2] at e; cases e
theorem Go.new {st c p : Addr} {H : Hp} {o : HO} (h : StAt H st c) (e : H p = none) : Go st c H (upd H p o) := Go.same h (same_new e o)
theorem Kt.refl {H : Hp} : Kt H H := fun _ _ e => e
theorem Kt.trans {H H1 H2 : Hp} (x : Kt H H1) (y : Kt H1 H2) : Kt H H2 := fun b xs e => y b xs (x b xs e)
theorem Kt.new {H : Hp} {p : Addr} {o : HO} (e : H p = none) : Kt H (upd H p o) := Kt.of (same_new e o)
theorem Go.refl {st c : Addr} {H : Hp} (h : StAt H st c) : Go st c H H := ⟨fun _ _ _ _ e => e, h⟩
section
variable {P : Program} {w : World} {K : PySem.W.Frag} {mg : Str → Option Value} {base : Heap} {a : GAd}
theorem down {CX : CXT} {k d : Nat} {f : Addr} {fd : FuncData} {ps : List Str} {sp : Nat → Sp} (h : ∀ e, d = e + 1 → FnOk P w K mg base CX k f fd ps (sp e)) : FnOk P w K mg base CX k f fd ps (fun vs H Q E => ∃ e, d = e + 1 ∧ sp e vs H Q E) :=
  ⟨fun vs H Q E ⟨e, he, q⟩ => (h e he).len vs H Q E q, fun A outer s H args us vs Q E hr h0 hb hv ⟨e, he, q⟩ => (h e he).run A outer s H args us vs Q E hr h0 hb hv q⟩
/-- no promise -/
theorem nope {CX : CXT} {k : Nat} {f : Addr} {fd : FuncData} {ps : List Str} : FnOk P w K mg base CX k f fd ps (fun _ _ _ _ => False) := ⟨fun _ _ _ _ q => q.elim, fun _ _ _ _ _ _ _ _ _ _ _ _ _ q => q.elim⟩
def spKind (d : Nat) : Sp := fun vs H Q _ => ∃ (st c : Addr), vs = [.ref st, .int d] ∧ StAt H st c ∧ ∀ H' k v, Go st c H H' → KdAt H' k v → k.dep ≤ d + 1 → Q v H'
theorem ok_law_kind (T : GTxt K mg a) (d : Nat) : FnOk P w K mg base CX0 (d + 2) a.law_kind.1 a.law_kind.2 ["state", "deep"] (spKind d) := by
  induction d using Nat.strongRecOn with
  | _ d ih =>
  refine T.law_kind.F.ok sc_law_kind (fun vs H Q E h => ?_) (fun cdv A outer s H vs Q E hr h => ?_)
  · obtain ⟨st, c, rfl, _⟩ := h
    rfl
  obtain ⟨st, c, rfl, hS, q⟩ := h
  have nd := sc_law_kind.nd
  have G_law_draw := ok_law_draw (P := P) (w := w) (base := base) T
  have G_law_kind : FnOk P w K mg base CX0 (d + 1) a.law_kind.1 a.law_kind.2 ["state", "deep"] (fun vs H Q E => ∃ e, d = e + 1 ∧ spKind e vs H Q E) := down (fun e he => (ih e (by omega)).mono (by omega))
  refine ⟨_, (pss_cons (ps_set (i := 2) nd rfl (Or.inl rfl) (pe_call G_law_draw (hr.mono (by omega)) rfl T.law_draw.g T.law_draw.F.kp T.law_draw.b .nil pass0 (pa_cons (pv 0) (pa_cons pe_int pa_nil))))
  (pss_cons (ps_if (PW.pt (pw_or (pt_cmpR op_eq (pv 1) pe_int (nomark _)) (pw_or1 (pt_cmpR op_eq (pv 2) pe_int (nomark _))))) (pss_one (ps_ret (pe_tup (pa_cons pe_str pa_nil)))) pss_nil)
  (pss_cons (ps_if (pt_cmpR op_eq (pv 2) pe_int (nomark _)) (pss_one (ps_ret (pe_tup (pa_cons pe_str (pa_cons (pe_call G_law_kind (hr.mono (by omega)) rfl T.law_kind.g T.law_kind.F.kp T.law_kind.b .nil pass0 (pa_cons (pv 0) (pa_cons (pe_op op_sub (pv 1) pe_int) pa_nil))) (pa_cons (pe_call G_law_kind (hr.mono (by omega)) rfl T.law_kind.g T.law_kind.F.kp T.law_kind.b .nil pass0 (pa_cons (pv 0) (pa_cons (pe_op op_sub (pv 1) pe_int) pa_nil))) pa_nil)))))) pss_nil)
  (pss_one (ps_ret (pe_tup (pa_cons pe_str (pa_cons (pe_call G_law_kind (hr.mono (by omega)) rfl T.law_kind.g T.law_kind.F.kp T.law_kind.b .nil pass0 (pa_cons (pv 0) (pa_cons (pe_op op_sub (pv 1) pe_int) pa_nil))) pa_nil)))))))), ?_⟩
  refine ⟨_, rfl, st, c, _, rfl, hS, by decide, by decide, fun H1 n g1 n0 n1 => ?_⟩
  have leaf : ∀ (H1 : Hp), Go st c H H1 → ∀ p, H1 p = none → Q (.ref p) (upd H1 p (.tup [.str "num"])) := fun H1 g1 p hp => q _ .num _ (g1.trans (Go.new g1.2 hp)) ⟨p, rfl, upd_same⟩ (by show 1 ≤ _; omega)
  refine ⟨_, rfl, rfl, _, rfl, ?_⟩
  refine ite2 (fun c1 => ?_) (fun c1 => ?_)
  · exact ⟨(by show 1 ≤ sizeLine; decide), leaf _ g1⟩
  obtain ⟨e, rfl⟩ : ∃ e, d = e + 1 := ⟨d - 1, by
    have : ¬ ((d : Int) = 0) := fun z => c1 (by rw [z]; rfl)
    omega⟩
  have esub : ((e + 1 : Nat) : Int) - 1 = (e : Int) := by omega
  refine ⟨_, rfl, rfl, _, rfl, ?_⟩
  refine ite2 (fun c2 => ?_) (fun c2 => ?_)
  · exact ⟨(by show 1 ≤ sizeLine; decide), leaf _ g1⟩
  refine ⟨_, rfl, rfl, _, rfl, ?_⟩
  refine ite2 (fun c3 => ?_) (fun c3 => ?_)
  · refine ⟨_, rfl, _, rfl, _, _, rfl, rfl, e, rfl, st, c, congrArg (fun z : Int => [V.ref st, V.int z]) esub, g1.2, fun H2 k1 v1 g2 hk1 dk1 => ?_⟩
    refine ⟨_, rfl, _, rfl, _, _, rfl, rfl, e, rfl, st, c, congrArg (fun z : Int => [V.ref st, V.int z]) esub, g2.2, fun H3 k2 v2 g3 hk2 dk2 => ?_⟩
    refine ⟨(by show 3 ≤ sizeLine; decide), fun p hp => ?_⟩
    have gp := Go.new (o := .tup [.str "pair", v1, v2]) g3.2 hp
    exact q _ (.pair k1 k2) _ (((g1.trans g2).trans g3).trans gp) ⟨p, v1, v2, rfl, upd_same, (hk1.kt (g3.kt g2.2)).kt (gp.kt g3.2), hk2.kt (gp.kt g3.2)⟩ (by simp only [Kd.dep]; omega)
  · refine ⟨_, rfl, _, rfl, _, _, rfl, rfl, e, rfl, st, c, congrArg (fun z : Int => [V.ref st, V.int z]) esub, g1.2, fun H2 k1 v1 g2 hk1 dk1 => ?_⟩
    refine ⟨(by show 2 ≤ sizeLine; decide), fun p hp => ?_⟩
    have gp := Go.new (o := .tup [.str "seq", v1]) g2.2 hp
    exact q _ (.seq k1) _ ((g1.trans g2).trans gp) ⟨p, v1, rfl, upd_same, hk1.kt (gp.kt g2.2)⟩ (by simp only [Kd.dep]; omega)
end
end K2

namespace K2
open PySem PySem.Spec PyProof.Rows L2
/-! ### the names in sight -/
def NmAt (H : Hp) (n : Addr) (G : Gm) (L : Nat) : Prop := ∃ (kvs : List (L2.Key × V)) (ks : List Str), H n = some (.dK kvs) ∧ kvs.map (·.1) = ks.map Sum.inr ∧ ks.length ≤ L ∧
  (∀ x, valV kvs (.inr x) = none → G x = none) ∧ ∀ x v, valV kvs (.inr x) = some v → ∃ k, G x = some k ∧ KdAt H k v ∧ k.dep ≤ 40
theorem NmAt.kt {H H' : Hp} {n : Addr} {G : Gm} {L : Nat} (h : NmAt H n G L) (t : Kt H H') (e : ∀ kvs, H n = some (.dK kvs) → H' n = some (.dK kvs)) : NmAt H' n G L := by
  obtain ⟨kvs, ks, h1, h2, h3, h4, h5⟩ := h
  exact ⟨kvs, ks, e _ h1, h2, h3, h4, fun x v q => let ⟨k, g, z, l⟩ := h5 x v q; ⟨k, g, z.kt t, l⟩⟩
theorem NmAt.keep {H H' : Hp} {n : Addr} {G : Gm} {L : Nat} (h : NmAt H n G L) (t : Same H H') : NmAt H' n G L := h.kt (Kt.of t) fun _ e => t _ _ e
theorem NmAt.go {H H' : Hp} {n st c : Addr} {G : Gm} {L : Nat} (h : NmAt H n G L) (s : StAt H st c) (t : Go st c H H') : NmAt H' n G L := h.kt (t.kt s) fun kvs e => by
  obtain ⟨ns, z, h1, h2⟩ := s
  refine t.1 n _ (fun m => ?_) (fun m => ?_) e
  · rw [m, h1] at e; cases e
  · rw [m, h2] at e; cases e
theorem val_mem {kvs : List (L2.Key × V)} {ks : List Str} (h : kvs.map (·.1) = ks.map Sum.inr) {x : Str} (m : x ∈ ks) : ∃ v, valV kvs (.inr x) = some v := by
  have e := valV_any (Sum.inr x : L2.Key) kvs
  have m2 : (Sum.inr x : L2.Key) ∈ kvs.map (·.1) := by rw [h]; exact List.mem_map_of_mem m
  obtain ⟨kv, m3, m4⟩ := List.mem_map.mp m2
  rw [List.any_eq_true.mpr ⟨kv, m3, decide_eq_true m4⟩] at e
  exact Option.isSome_iff_exists.mp e.symm
theorem KdAt.same {H : Hp} : ∀ {k : Kd} {l : Kd} {v : V}, KdAt H k v → KdAt H l v → k = l
  | .num, .num, _, _, _ => rfl
  | .num, .pair _ _, _, ⟨a, e, h⟩, ⟨b, _, _, f, g, _⟩ => by rw [e] at f; cases f; rw [h] at g; cases g
  | .num, .seq _, _, ⟨a, e, h⟩, ⟨b, _, f, g, _⟩ => by rw [e] at f; cases f; rw [h] at g; cases g
  | .pair _ _, .num, _, ⟨b, _, _, f, g, _⟩, ⟨a, e, h⟩ => by rw [e] at f; cases f; rw [h] at g; cases g
  | .seq _, .num, _, ⟨b, _, f, g, _⟩, ⟨a, e, h⟩ => by rw [e] at f; cases f; rw [h] at g; cases g
  | .pair _ _, .seq _, _, ⟨b, _, _, f, g, _⟩, ⟨a, _, e, h, _⟩ => by rw [e] at f; cases f; rw [h] at g; cases g
  | .seq _, .pair _ _, _, ⟨a, _, e, h, _⟩, ⟨b, _, _, f, g, _⟩ => by rw [e] at f; cases f; rw [h] at g; cases g
  | .pair _ _, .pair _ _, _, ⟨a, _, _, e, h, x, y⟩, ⟨b, _, _, f, g, z, w⟩ => by
    rw [e] at f; cases f; rw [h] at g; cases g
    rw [x.same z, y.same w]
  | .seq _, .seq _, _, ⟨a, _, e, h, x⟩, ⟨b, _, f, g, z⟩ => by
    rw [e] at f; cases f; rw [h] at g; cases g
    rw [x.same z]
section
variable {P : Program} {w : World} {K : PySem.W.Frag} {mg : Str → Option Value} {base : Heap} {a : GAd}
theorem op_eqDK {X : Cx} {K : PySem.W.Frag} (hK : X.K = K) (hu : X.A.units + 64 < cLine) : OpR X (compareOp .Eq) (rEqD K) := hK ▸ op_eqD hu
theorem ix_tupK {X : Cx} {K : PySem.W.Frag} (hK : X.K = K) : IxR X (rIxT K) := hK ▸ ix_tup
def spVars : Sp := fun vs H Q _ => ∃ (n : Addr) (kv : V) (k : Kd) (G : Gm) (L : Nat), vs = [.ref n, kv] ∧ NmAt H n G L ∧ L < 60 ∧ KdAt H k kv ∧ k.dep ≤ 40 ∧
  ∀ (H' : Hp) (p : Addr) (xs : List Str), Same H H' → H p = none → H' p = some (.lst (xs.map V.str)) → (∀ x ∈ xs, G x = some k) → xs.length ≤ L → Q (.ref p) H'
theorem ok_law_vars (T : GTxt K mg a) : FnOk P w K mg base CX0 1 a.law_vars.1 a.law_vars.2 ["names", "kind"] spVars := by
  refine T.law_vars.F.ok sc_law_vars (fun vs H Q E h => ?_) (fun cdv A outer s H vs Q E hr h => ?_)
  · obtain ⟨_, _, _, _, _, rfl, _⟩ := h
    rfl
  obtain ⟨n, kv, k, G, L, rfl, hN, hL, hk, hd, q⟩ := h
  have nd := sc_law_vars.nd
  have hu := hu_of hr
  obtain ⟨kvs, ks, h1, h2, h3, h4, h5⟩ := hN
  refine ⟨_, (pss_one (ps_ret (pe_lc (own := [("name", 2)]) (g := gName 2) rfl nd (pi_list (pe_callB (call_sortedD rfl) (by rfl) T.sorted (by decide +kernel) (pa_cons (pv 0) pa_nil))) (blkOk_by (N := ["names", "kind", "name"]) (sc := defScope s_law_vars) (by decide +kernel)) (fun _ _ _ _ _ => (pg_name (i := 2) nd rfl (Or.inl rfl))) (fun _ _ _ _ _ => (pts_one (pt_cmpR (op_eqDK (K := K) rfl hr.units) (pe_dget hu (pv 0) (pv 2) (fun _ _ => rfl)) (pv 1) (nomark _)))) (fun _ _ _ _ _ => (pv 2))))), ?_⟩
  refine ⟨_, rfl, n, kvs, ks, rfl, .inl h1, h2, by omega, fun ys p pm _ hp => ?_⟩
  have hlen : ys.length = ks.length := pm.length_eq
  refine ⟨p, rfl, ⟨_, SqL.of upd_same⟩, fun D hD => lc_list (K := K) (a := p) (xs := ys.map V.str) (fun i H1 => ∃ acc : List Str, H1 = upd (upd H p (.lst (ys.map V.str))) D (.lst (acc.map V.str)) ∧ acc.length ≤ i ∧ ∀ x ∈ acc, G x = some k) ⟨[], rfl, Nat.le_refl _, fun _ z => nomatch z⟩ (fun i H1 _ h => ?_) ?_ ?_⟩
  · obtain ⟨acc, rfl, _⟩ := h
    exact SqL.of ((same_new hD _) _ _ upd_same)
  · rintro i y H1 hi ⟨acc, rfl, hl, ha⟩
    rw [List.getElem?_map] at hi
    obtain ⟨x, hx, rfl⟩ := Option.map_eq_some_iff.mp hi
    have hi2 : i < ys.length := (List.getElem?_eq_some_iff.mp hx).1
    have hm : x ∈ ks := pm.mem_iff.mp (List.mem_of_getElem? hx)
    obtain ⟨v, hv⟩ := val_mem h2 hm
    obtain ⟨k2, g2, hk2, d2⟩ := h5 x v hv
    have sm := (same_new hp (.lst (ys.map V.str))).trans (same_new hD (.lst (acc.map V.str)))
    refine ⟨rfl, _, rfl, _, rfl, n, v, rfl, by rw [← hv]; exact DGet.k (k := .inr x) (sm _ _ h1), ?_⟩
    refine ⟨_, rfl, k2.d, k.d, (hk2.kt (Kt.of sm)).dp, (hk.kt (Kt.of sm)).dp, Kd.shaped (by omega), Kd.shaped (by omega), _, rfl, ?_⟩
    rw [Kd.eqv]
    refine ite2 (fun c => ?_) (fun c => ?_)
    · refine ⟨_, rfl, _, upd_same, ?_, acc ++ [x], ?_, ?_, ?_⟩
      · rw [List.length_map]; exact small1000 (by omega)
      · rw [List.map_append, upd_upd]; rfl
      · rw [List.length_append]; show acc.length + 1 ≤ _; omega
      · intro z hz
        rcases List.mem_append.mp hz with hz | hz
        · exact ha z hz
        · rw [List.mem_singleton.mp hz, g2, of_decide_eq_true c]
    · exact ⟨acc, rfl, by omega, ha⟩
  · rintro H1 ⟨acc, rfl, hl, ha⟩
    have sm := (same_new hp (.lst (ys.map V.str))).trans (same_new hD (.lst (acc.map V.str)))
    refine q _ D acc sm (by
      have := hD
      by_cases e : D = p
      · rw [e] at this; rw [upd_same] at this; cases this
      · rw [upd_ne e] at this; exact this) upd_same ha ?_
    rw [List.length_map] at hl
    omega
end
end K2

namespace K2
open PySem PySem.Spec PyProof.Rows L2
theorem putK_keys {ms : List (L2.Key × V)} {ks : List Str} (h : ms.map (·.1) = ks.map Sum.inr) (x : Str) (v : V) : ∃ ks' : List Str, (putK ms (.inr x) v).map (·.1) = ks'.map Sum.inr ∧ ks'.length ≤ ks.length + 1 := by
  unfold putK
  split
  · refine ⟨ks, ?_, by omega⟩
    rw [← h, List.map_map]
    refine List.map_congr_left fun kv _ => ?_
    show (if kv.1 = Sum.inr x then (kv.1, v) else kv).1 = kv.1
    split <;> rfl
  · refine ⟨ks ++ [x], ?_, by simp⟩
    rw [List.map_append, h, List.map_append]
    rfl
section
variable {P : Program} {w : World} {K : PySem.W.Frag} {mg : Str → Option Value} {base : Heap} {a : GAd}
def spWith : Sp := fun vs H Q _ => ∃ (n : Addr) (x : Str) (kv : V) (k : Kd) (G : Gm) (L : Nat), vs = [.ref n, .str x, kv] ∧ NmAt H n G L ∧ L < 60 ∧ KdAt H k kv ∧ k.dep ≤ 40 ∧
  ∀ (H' : Hp) (p : Addr), Same H H' → H p = none → NmAt H' p (G.put x k) (L + 1) → Q (.ref p) H'
theorem ok_law_with (T : GTxt K mg a) : FnOk P w K mg base CX0 1 a.law_with.1 a.law_with.2 ["names", "name", "kind"] spWith := by
  refine T.law_with.F.ok sc_law_with (fun vs H Q E h => ?_) (fun cdv A outer s H vs Q E hr h => ?_)
  · obtain ⟨_, _, _, _, _, _, rfl, _⟩ := h
    rfl
  obtain ⟨n, x, kv, k, G, L, rfl, hN, hL, hk, hd, q⟩ := h
  have nd := sc_law_with.nd
  have hu := hu_of hr
  obtain ⟨kvs, ks, h1, h2, h3, h4, h5⟩ := hN
  refine ⟨_, (pss_cons (ps_set (i := 3) nd rfl (Or.inl rfl) pe_dnewK)
  (pss_cons (ps_lock (ps_for PassesOwn.never rfl (pi_keys (pv 0)) (pg_name (i := 4) nd rfl (Or.inl rfl)) (pss_one (ps_dput hu (pv 3) (pv 4) (pe_dget hu (pv 0) (pv 4) (fun _ _ => rfl)) rfl))))
  (pss_cons (ps_dput hu (pv 3) (pv 1) (pv 2) rfl)
  (pss_one (ps_ret (pv 3)))))), ?_⟩
  intro p hp
  have np : n ≠ p := ne_of_none h1 hp
  refine ⟨n, .dK kvs, (by rw [upd_ne np]; exact h1), trivial, fun od => ?_⟩
  refine ⟨_, rfl, n, od, rfl, .inl ⟨kvs, upd_same, for_it walk_keys (fun i σ H' => ∃ (ms : List (L2.Key × V)) (ks' : List Str) (v4 : Option V), σ = [some (.ref n), some (.str x), some kv, some (.ref p), v4] ∧ H' = upd (upd H n (.frz od (.dK kvs))) p (.dK ms) ∧ ms.map (·.1) = ks'.map Sum.inr ∧ ks'.length ≤ i ∧ ∀ z, valV ms (.inr z) = if z ∈ ks.take i then valV kvs (.inr z) else none) ?_ ?_ ?_ ?_⟩⟩
  · refine ⟨[], [], none, rfl, ?_, rfl, Nat.le_refl _, fun z => ?_⟩
    · funext b
      by_cases e1 : b = p
      · rw [e1, upd_ne np.symm, upd_same, upd_same]
      · by_cases e2 : b = n
        · rw [e2, upd_same, upd_ne np, upd_same]
        · rw [upd_ne e2, upd_ne e1, upd_ne e1, upd_ne e2]
    · simp [valV_nil]
  · rintro i σ H' _ ⟨ms, ks', v4, rfl, rfl, _⟩
    rw [upd_ne np, upd_same]
  · rintro i y σ H' H'' hi ⟨ms, ks', v4, rfl, rfl, e1, e2, e3⟩ ⟨rfl, k0, v0, hkv, rfl⟩
    have hkey : (kvs.map (·.1))[i]? = some k0 := by rw [List.getElem?_map, hkv]; rfl
    rw [h2, List.getElem?_map] at hkey
    obtain ⟨z0, hz, rfl⟩ := Option.map_eq_some_iff.mp hkey
    obtain ⟨v, hv⟩ := val_mem h2 (List.mem_of_getElem? hz)
    have eN : (upd (upd H n (.frz od (.dK kvs))) p (.dK ms)) n = some (.frz od (.dK kvs)) := by rw [upd_ne np, upd_same]
    refine ⟨_, rfl, _, rfl, n, v, rfl, .inl ⟨kvs, .inr z0, .inr ⟨od, eN⟩, rfl, hv.symm⟩, _, rfl, _, rfl, p, _, rfl, DPut.k (k := .inr z0) upd_same (small1000 ?_), ?_⟩
    · have := congrArg List.length e1
      rw [List.length_map, List.length_map] at this
      have hi' : i < ks.length := (List.getElem?_eq_some_iff.mp hz).1
      omega
    · obtain ⟨ks2, f1, f2⟩ := putK_keys e1 z0 v
      refine ⟨putK ms (.inr z0) v, ks2, _, rfl, by rw [upd_upd], f1, by omega, fun z => ?_⟩
      rw [valV_put, e3]
      have hi' : i < ks.length := (List.getElem?_eq_some_iff.mp hz).1
      have ht : ks.take (i + 1) = ks.take i ++ [z0] := by
        rw [List.take_succ, hz]; rfl
      rw [ht]
      by_cases c : z = z0
      · subst c
        simp [hv]
      · have c2 : ¬ ((Sum.inr z : L2.Key) = .inr z0) := fun e => c (by cases e; rfl)
        simp [c, c2]
  · rintro σ H' ⟨ms, ks', v4, rfl, rfl, e1, e2, e3⟩
    have hlen : kvs.length = ks.length := by
      have := congrArg List.length h2
      rwa [List.length_map, List.length_map] at this
    have full : ks.take kvs.length = ks := by rw [hlen]; exact List.take_length
    refine ⟨by rw [upd_ne np, upd_same], ?_⟩
    have eP : (upd (upd (upd H n (.frz od (.dK kvs))) p (.dK ms)) n (.dK kvs)) p = some (.dK ms) := by rw [upd_ne np.symm, upd_same]
    refine ⟨_, rfl, _, rfl, _, rfl, p, _, rfl, DPut.k (k := .inr x) eP (small1000 ?_), ?_⟩
    · have := congrArg List.length e1
      rw [List.length_map, List.length_map] at this
      omega
    refine ⟨_, rfl, ?_⟩
    have sm : Same H (upd (upd (upd (upd H n (.frz od (.dK kvs))) p (.dK ms)) n (.dK kvs)) p (.dK (putK ms (.inr x) kv))) := fun b o e => by
      have bp : b ≠ p := ne_of_none e hp
      rw [upd_ne bp]
      by_cases bn : b = n
      · rw [bn, upd_same, ← h1, ← bn, e]
      · rw [upd_ne bn, upd_ne bp, upd_ne bn, e]
    obtain ⟨ks2, f1, f2⟩ := putK_keys e1 x kv
    refine q _ p sm hp ⟨_, ks2, upd_same, f1, by omega, fun z hz => ?_, fun z v hz => ?_⟩
    · rw [valV_put, e3, full] at hz
      by_cases c : z = x
      · subst c; simp at hz
      · have c2 : ¬ ((Sum.inr z : L2.Key) = .inr x) := fun e => c (by cases e; rfl)
        rw [if_neg c2] at hz
        show (if z = x then some k else G z) = none
        rw [if_neg c]
        by_cases m : z ∈ ks
        · rw [if_pos m] at hz; exact h4 z hz
        · refine h4 z ?_
          cases hh : valV kvs (Sum.inr z) with
          | none => rfl
          | some v =>
            exfalso
            have ev := valV_any (Sum.inr z : L2.Key) kvs
            rw [hh] at ev
            obtain ⟨kv, m1, m2⟩ := List.any_eq_true.mp ev
            have m3 : (Sum.inr z : L2.Key) ∈ ks.map Sum.inr := by rw [← h2, ← of_decide_eq_true m2]; exact List.mem_map_of_mem m1
            obtain ⟨z2, m4, m5⟩ := List.mem_map.mp m3
            cases m5
            exact m m4
    · rw [valV_put, e3, full] at hz
      show ∃ k', (if z = x then some k else G z) = some k' ∧ _
      by_cases c : z = x
      · subst c
        simp at hz
        rw [if_pos rfl]
        exact ⟨k, rfl, by rw [← hz]; exact hk.kt (Kt.of sm), hd⟩
      · have c2 : ¬ ((Sum.inr z : L2.Key) = .inr x) := fun e => c (by cases e; rfl)
        rw [if_neg c2] at hz
        rw [if_neg c]
        by_cases m : z ∈ ks
        · rw [if_pos m] at hz
          obtain ⟨k', r1, r2, r3⟩ := h5 z v hz
          exact ⟨k', r1, r2.kt (Kt.of sm), r3⟩
        · rw [if_neg m] at hz; cases hz
end
end K2

namespace K2
open PySem PySem.Spec PyProof.Rows L2
/-! ### making -/
section
variable {H : Hp} {p : Addr}
theorem mkNum {n : Int} : ExAt (upd H p (.tup [.str "num", .int n])) (.num n) (.ref p) := ⟨p, rfl, upd_same⟩
theorem mkVar {x : Str} : ExAt (upd H p (.tup [.str "var", .str x])) (.var x) (.ref p) := ⟨p, rfl, upd_same⟩
theorem mk1 {w : Str} {e : Ex} {u : V} (hp : H p = none) (h : ExAt H e u) : ExAt (upd H p (.tup [.str w, u])) (.f1 w e) (.ref p) := ⟨p, u, rfl, upd_same, h.kt (Kt.new hp)⟩
theorem mk2 {w : Str} {e f : Ex} {u v : V} (hp : H p = none) (h : ExAt H e u) (i : ExAt H f v) : ExAt (upd H p (.tup [.str w, u, v])) (.f2 w e f) (.ref p) := ⟨p, u, v, rfl, upd_same, h.kt (Kt.new hp), i.kt (Kt.new hp)⟩
theorem mkO {s : Str} {e f : Ex} {u v : V} (hp : H p = none) (h : ExAt H e u) (i : ExAt H f v) : ExAt (upd H p (.tup [.str "op", .str s, u, v])) (.op s e f) (.ref p) := ⟨p, u, v, rfl, upd_same, h.kt (Kt.new hp), i.kt (Kt.new hp)⟩
theorem mkE {x : Str} {e f : Ex} {u v : V} (hp : H p = none) (h : ExAt H e u) (i : ExAt H f v) : ExAt (upd H p (.tup [.str "each", .str x, u, v])) (.bnd true x e f) (.ref p) := ⟨p, u, v, rfl, upd_same, h.kt (Kt.new hp), i.kt (Kt.new hp)⟩
theorem mkL {x : Str} {e f : Ex} {u v : V} (hp : H p = none) (h : ExAt H e u) (i : ExAt H f v) : ExAt (upd H p (.tup [.str "let", .str x, u, v])) (.bnd false x e f) (.ref p) := ⟨p, u, v, rfl, upd_same, h.kt (Kt.new hp), i.kt (Kt.new hp)⟩
theorem mkC {x : Str} {e : Ex} {u : V} (hp : H p = none) (h : ExAt H e u) : ExAt (upd H p (.tup [.str "call", .str x, u])) (.call x e) (.ref p) := ⟨p, u, rfl, upd_same, h.kt (Kt.new hp)⟩
theorem mkI {c e f : Ex} {t u v : V} (hp : H p = none) (k : ExAt H c t) (h : ExAt H e u) (i : ExAt H f v) : ExAt (upd H p (.tup [.str "if", t, u, v])) (.ite c e f) (.ref p) := ⟨p, t, u, v, rfl, upd_same, k.kt (Kt.new hp), h.kt (Kt.new hp), i.kt (Kt.new hp)⟩
theorem kNum : KdAt (upd H p (.tup [.str "num"])) .num (.ref p) := ⟨p, rfl, upd_same⟩
theorem kSeq {k : Kd} {u : V} (hp : H p = none) (h : KdAt H k u) : KdAt (upd H p (.tup [.str "seq", u])) (.seq k) (.ref p) := ⟨p, u, rfl, upd_same, h.kt (Kt.new hp)⟩
theorem kPair {k l : Kd} {u v : V} (hp : H p = none) (h : KdAt H k u) (i : KdAt H l v) : KdAt (upd H p (.tup [.str "pair", u, v])) (.pair k l) (.ref p) := ⟨p, u, v, rfl, upd_same, h.kt (Kt.new hp), i.kt (Kt.new hp)⟩
end
theorem Kd.dep_pos : ∀ k : Kd, 1 ≤ k.dep
  | .num => Nat.le_refl _
  | .pair a b => by simp only [Kd.dep]; omega
  | .seq a => by simp only [Kd.dep]; omega
/-- more names in sight -/
def Gm.Le (G F : Gm) : Prop := ∀ x k, G x = some k → F x = some k
theorem Gm.Le.put {G F : Gm} (h : G.Le F) (x : Str) (k : Kd) : (G.put x k).Le (F.put x k) := fun y l e => by
  unfold Gm.put at *
  split
  · rename_i c; rw [if_pos c] at e; exact e
  · rename_i c; rw [if_neg c] at e; exact h y l e
theorem Gm.le_put {G : Gm} {x : Str} (h : G x = none) (k : Kd) : G.Le (G.put x k) := fun y l e => by
  unfold Gm.put
  split
  · rename_i c; rw [c, h] at e; cases e
  · exact e
theorem ty_le {S : Sg} : ∀ {e : Ex} {G F : Gm} {k : Kd}, G.Le F → ty S G e = some k → ty S F e = some k
  | .num _, _, _, _, _, h => h
  | .var _, _, _, _, l, h => l _ _ h
  | .bnd false x a b, G, F, k, l, h => by
    simp only [ty] at h ⊢
    split at h
    · rename_i k1 e1; rw [ty_le l e1]; exact ty_le (l.put x k1) h
    · cases h
  | .bnd true x a b, G, F, k, l, h => by
    simp only [ty] at h ⊢
    split at h
    · rename_i k1 e1
      rw [ty_le l e1]
      obtain ⟨k2, e2, rfl⟩ := Option.map_eq_some_iff.mp h
      show Option.map _ _ = _
      rw [ty_le (l.put x k1) e2]; rfl
    · cases h
  | .op s a b, G, F, k, l, h => by
    simp only [ty] at h ⊢
    split at h
    · rename_i c; rw [if_pos ⟨c.1, ty_le l c.2.1, ty_le l c.2.2⟩]; exact h
    · cases h
  | .call f a, G, F, k, l, h => by
    simp only [ty] at h ⊢
    split at h
    · split at h
      · rename_i c; rw [if_pos (ty_le l c)]; exact h
      · cases h
    · cases h
  | .f1 w a, G, F, k, l, h => by
    simp only [ty] at h ⊢
    split at h
    · rename_i c; rw [ty_le l c]; exact h
    · cases h
  | .f2 w a b, G, F, k, l, h => by
    simp only [ty] at h ⊢
    split at h
    · rename_i c d; rw [ty_le l c, ty_le l d]; exact h
    · cases h
  | .ite c a b, G, F, k, l, h => by
    simp only [ty] at h ⊢
    split at h
    · rename_i c1
      rw [if_pos (ty_le l c1)]
      split at h
      · rename_i c2; rw [ty_le l c2]
        split at h
        · rename_i c3; dsimp only; rw [if_pos (ty_le l c3)]; exact h
        · cases h
      · cases h
    · cases h
section
variable {S : Sg} {G : Gm} {e f c : Ex} {k l : Kd}
theorem ty_op {s : Str} (hs : s ∈ sgns) (h : ty S G e = some .num) (i : ty S G f = some .num) : ty S G (.op s e f) = some .num := by simp only [ty]; exact if_pos ⟨hs, h, i⟩
theorem ty_let {x : Str} (h : ty S G e = some k) (i : ty S (G.put x k) f = some l) : ty S G (.bnd false x e f) = some l := by simp only [ty, h]; exact i
theorem ty_each {x : Str} (h : ty S G e = some (.seq k)) (i : ty S (G.put x k) f = some l) : ty S G (.bnd true x e f) = some (.seq l) := by simp only [ty, h, i]; rfl
theorem ty_1 {w : Str} (h : ty S G e = some k) (i : ty1 w k = some l) : ty S G (.f1 w e) = some l := by simp only [ty, h]; exact i
theorem ty_2 {w : Str} {m : Kd} (h : ty S G e = some k) (j : ty S G f = some l) (i : ty2 w k l = some m) : ty S G (.f2 w e f) = some m := by simp only [ty, h, j]; exact i
theorem ty_if (h : ty S G c = some .num) (i : ty S G e = some k) (j : ty S G f = some k) : ty S G (.ite c e f) = some k := by simp only [ty, h, i, j, if_true]
theorem ty_call {x : Str} (h : find S x = some (k, l)) (i : ty S G e = some k) : ty S G (.call x e) = some l := by simp only [ty, h]; exact if_pos i
end
theorem ty1_len (a : Kd) : ty1 "len" (.seq a) = some .num := by unfold ty1; exact if_pos rfl
theorem ty1_sum : ty1 "sum" (.seq .num) = some .num := by decide +kernel
theorem ty1_flat (b : Kd) : ty1 "flat" (.seq (.seq b)) = some (.seq b) := by unfold ty1; dsimp only; rw [if_neg (by decide +kernel), if_neg (by decide +kernel), if_pos rfl]
theorem ty1_iota : ty1 "iota" .num = some (.seq .num) := by decide +kernel
theorem ty1_first (a b : Kd) : ty1 "first" (.pair a b) = some a := by unfold ty1; exact if_pos rfl
theorem ty1_second (a b : Kd) : ty1 "second" (.pair a b) = some b := by unfold ty1; dsimp only; rw [if_neg (by decide +kernel), if_pos rfl]
theorem ty2_pair (a b : Kd) : ty2 "pair" a b = some (.pair a b) := by unfold ty2; exact if_pos rfl
theorem ty2_at (a : Kd) : ty2 "at" (.seq a) .num = some a := by unfold ty2; dsimp only; rw [if_neg (by decide +kernel), if_pos rfl, if_pos rfl]
theorem ty2_keep (a : Kd) : ty2 "keep" (.seq a) (.seq .num) = some (.seq a) := by unfold ty2; dsimp only; rw [if_neg (by decide +kernel), if_neg (by decide +kernel), if_pos rfl, if_pos rfl]
theorem ty2_append (a : Kd) : ty2 "append" (.seq a) (.seq a) = some (.seq a) := by unfold ty2; dsimp only; rw [if_neg (by decide +kernel), if_neg (by decide +kernel), if_neg (by decide +kernel), if_pos rfl, if_pos rfl]
def Nk (G : Gm) : Prop := G "i" = none ∧ G "k" = none
theorem Nk.put {G : Gm} (h : Nk G) {x : Str} (a : x ∈ (["x", "y", "a"] : List Str)) (k : Kd) : Nk (G.put x k) := by
  have hx : ¬ (("i" : Str) = x) ∧ ¬ (("k" : Str) = x) := by
    simp only [List.mem_cons, List.not_mem_nil, or_false] at a
    rcases a with rfl | rfl | rfl <;> exact ⟨by decide +kernel, by decide +kernel⟩
  exact ⟨(if_neg hx.1).trans h.1, (if_neg hx.2).trans h.2⟩
def LB : Nat → Nat
  | 0 => 0
  | m + 1 => 2 * LB m + 4
theorem ref_ne {H : Hp} {p q : Addr} {o : HO} (h : H p = none) (e : H q = some o) : p ≠ q := fun z => by rw [z, e] at h; cases h
theorem StAt.ne2 {H : Hp} {st c p : Addr} (h : StAt H st c) (e : H p = none) : p ≠ st ∧ p ≠ c := by
  obtain ⟨_, _, h1, h2⟩ := h
  exact ⟨ref_ne e h1, ref_ne e h2⟩
section
variable {P : Program} {w : World} {K : PySem.W.Frag} {mg : Str → Option Value} {base : Heap} {a : GAd}
def spLeaf (m : Nat) : Sp := fun vs H Q _ => ∃ (st c n : Addr) (kv : V) (k : Kd) (G : Gm) (L : Nat), vs = [.ref st, .ref n, kv] ∧ StAt H st c ∧ NmAt H n G L ∧ Nk G ∧ L < 60 ∧ KdAt H k kv ∧ k.dep ≤ m ∧ m ≤ 40 ∧
  ∀ (H' : Hp) (e : Ex) (v : V), Go st c H H' → ExAt H' e v → (∀ S, ty S G e = some k) → e.sz ≤ LB m → e.dep ≤ m + 3 → Q v H'
theorem ok_law_leaf (T : GTxt K mg a) (m : Nat) : FnOk P w K mg base CX0 (m + 4) a.law_leaf.1 a.law_leaf.2 ["state", "names", "kind"] (spLeaf m) := by
  induction m using Nat.strongRecOn with
  | _ m ih =>
  refine T.law_leaf.F.ok sc_law_leaf (fun vs H Q E h => ?_) (fun cdv A outer s H vs Q E hr h => ?_)
  · obtain ⟨_, _, _, _, _, _, _, rfl, _⟩ := h
    rfl
  obtain ⟨st, c, n, kv, k, G, L, rfl, hS, hN, hG, hL, hk, hd, hm, q⟩ := h
  have nd := sc_law_leaf.nd
  have G_law_draw := ok_law_draw (P := P) (w := w) (base := base) T
  have G_law_pick := ok_law_pick (P := P) (w := w) (base := base) T
  have G_law_number := ok_law_number (P := P) (w := w) (base := base) T
  have G_law_vars := ok_law_vars (P := P) (w := w) (base := base) T
  have G_law_leaf : FnOk P w K mg base CX0 (m + 3) a.law_leaf.1 a.law_leaf.2 ["state", "names", "kind"] (fun vs H Q E => ∃ e, m = e + 1 ∧ spLeaf e vs H Q E) := down (fun e he => (ih e (by omega)).mono (by omega))
  obtain ⟨m, rfl⟩ : ∃ e, m = e + 1 := ⟨m - 1, by have := k.dep_pos; omega⟩
  have szl : 1 ≤ LB (m + 1) := by show 1 ≤ 2 * LB m + 4; omega
  obtain ⟨tr, hb, hread⟩ : ∃ tr, PSs (cxOf CX0 P w K mg base ["state", "names", "kind", "rows"] "_law_leaf" (defScope s_law_leaf) a.law_leaf.1 cdv A outer s H E).nox ((defBody s_law_leaf).drop 2) tr ∧
      ∀ (r : Addr) (xs : List Str) (H1 : Hp), Go st c H H1 → H1 r = some (.lst (xs.map V.str)) → r ≠ st → r ≠ c → (∀ x ∈ xs, G x = some k) → tr { nx := fun _ H' => Q .non H', rt := Q } [some (.ref st), some (.ref n), some kv, some (.ref r)] H1 := by
    refine ⟨_, (pss_cons (ps_if (pt_cmpR op_eq (pe_ix ix_tup (pv 2) pe_int (fun _ _ => rfl)) pe_str (nomark _)) (pss_one (ps_ret (pe_tup (pa_cons pe_str (pa_cons (pe_call G_law_number (hr.mono (by omega)) rfl T.law_number.g T.law_number.F.kp T.law_number.b .nil pass0 (pa_cons (pv 0) pa_nil)) pa_nil))))) pss_nil)
  (pss_cons (ps_if (pt_cmpR op_eq (pe_ix ix_tup (pv 2) pe_int (fun _ _ => rfl)) pe_str (nomark _)) (pss_one (ps_ret (pe_tup (pa_cons pe_str (pa_cons (pe_call G_law_leaf (hr.mono (by omega)) rfl T.law_leaf.g T.law_leaf.F.kp T.law_leaf.b .nil pass0 (pa_cons (pv 0) (pa_cons (pv 1) (pa_cons (pe_ix ix_tup (pv 2) pe_int (fun _ _ => rfl)) pa_nil)))) (pa_cons (pe_call G_law_leaf (hr.mono (by omega)) rfl T.law_leaf.g T.law_leaf.F.kp T.law_leaf.b .nil pass0 (pa_cons (pv 0) (pa_cons (pv 1) (pa_cons (pe_ix ix_tup (pv 2) pe_int (fun _ _ => rfl)) pa_nil)))) pa_nil)))))) pss_nil)
  (pss_cons (ps_if (pt_cmpR op_gt (pe_callB call_len_seq (by rfl) T.len PySem.boot_len (pa_cons (pv 3) pa_nil)) pe_int (nomark _)) (pss_one (ps_ret (pe_tup (pa_cons pe_str (pa_cons (pe_ix ix_list (pv 3) pe_int (fun _ _ => rfl)) pa_nil))))) pss_nil)
  (pss_one (ps_ret (pe_tup (pa_cons pe_str (pa_cons pe_str (pa_cons (pe_tup (pa_cons pe_str (pa_cons (pe_tup (pa_cons pe_str (pa_cons (pe_call G_law_draw (hr.mono (by omega)) rfl T.law_draw.g T.law_draw.F.kp T.law_draw.b .nil pass0 (pa_cons (pv 0) (pa_cons pe_int pa_nil))) pa_nil))) pa_nil))) (pa_cons (pe_call G_law_leaf (hr.mono (by omega)) rfl T.law_leaf.g T.law_leaf.F.kp T.law_leaf.b .nil pass0 (pa_cons (pv 0) (pa_cons (pv 1) (pa_cons (pe_ix ix_tup (pv 2) pe_int (fun _ _ => rfl)) pa_nil)))) pa_nil)))))))))), fun r xs H1 g1 hr1 n1 n2 hx => ?_⟩
    have hk1 := hk.kt (g1.kt hS)
    have hN1 := hN.go hS g1
    cases k with
    | num =>
      obtain ⟨b, rfl, hb⟩ := hk1
      refine ⟨_, rfl, b, _, _, _, rfl, rfl, .inl (.inl hb), rfl, rfl, _, rfl, ?_⟩
      refine ifT rfl ?_
      refine ⟨_, rfl, st, c, rfl, g1.2, fun H2 i g2 ii => ?_⟩
      refine ⟨(by show 2 ≤ sizeLine; decide), fun p hp => ?_⟩
      exact q _ (.num i) _ ((g1.trans g2).trans (Go.new g2.2 hp)) mkNum (fun _ => rfl) szl (by simp only [Ex.dep, nsw_of ii]; omega)
    | pair k l =>
      simp only [Kd.dep] at hd
      obtain ⟨b, u, v, rfl, hb, hu, hv⟩ := hk1
      refine ⟨_, rfl, b, _, _, _, rfl, rfl, .inl (.inl hb), rfl, rfl, _, rfl, ?_⟩
      refine ifF (by decide +kernel) ?_
      refine ⟨_, rfl, b, _, _, _, rfl, rfl, .inl (.inl hb), rfl, rfl, _, rfl, ?_⟩
      refine ifT rfl ?_
      refine ⟨_, rfl, _, rfl, _, rfl, b, _, _, _, rfl, rfl, .inl (.inl hb), rfl, m, rfl, st, c, n, u, k, G, L, rfl, g1.2, hN1, hG, hL, hu, by omega, by omega, fun H2 e1 v1 g2 a1 t1 s1 d1 => ?_⟩
      have kt2 := g2.kt g1.2
      refine ⟨_, rfl, _, rfl, _, rfl, b, _, _, _, rfl, rfl, .inl (.inl (kt2 _ _ hb)), rfl, m, rfl, st, c, n, v, l, G, L, rfl, g2.2, hN1.go g1.2 g2, hG, hL, hv.kt kt2, by omega, by omega, fun H3 e2 v2 g3 a2 t2 s2 d2 => ?_⟩
      refine ⟨(by show 3 ≤ sizeLine; decide), fun p hp => ?_⟩
      exact q _ (.f2 "pair" e1 e2) _ (((g1.trans g2).trans g3).trans (Go.new g3.2 hp)) (mk2 hp (a1.kt (g3.kt g2.2)) a2) (fun S => ty_2 (t1 S) (t2 S) (ty2_pair k l)) (by simp only [Ex.sz, LB]; omega) (by simp only [Ex.dep]; omega)
    | seq k =>
      simp only [Kd.dep] at hd
      obtain ⟨b, u, rfl, hb, hu⟩ := hk1
      refine ⟨_, rfl, b, _, _, _, rfl, rfl, .inl (.inl hb), rfl, rfl, _, rfl, ?_⟩
      refine ifF (by decide +kernel) ?_
      refine ⟨_, rfl, b, _, _, _, rfl, rfl, .inl (.inl hb), rfl, rfl, _, rfl, ?_⟩
      refine ifF (by decide +kernel) ?_
      refine ⟨_, rfl, r, _, rfl, .inl (SqL.of hr1), _, _, rfl, rfl, _, rfl, ?_⟩
      cases xs with
      | cons x xs =>
        refine ifT (by rw [List.length_map]; exact decide_eq_true (by simp)) ?_
        refine ⟨_, rfl, r, _, _, _, rfl, rfl, SqL.of hr1, atI_nat (j := 0) rfl, ?_⟩
        refine ⟨(by show 2 ≤ sizeLine; decide), fun p hp => ?_⟩
        exact q _ (.var x) _ (g1.trans (Go.new g1.2 hp)) mkVar (fun _ => hx x (by simp)) szl (by simp only [Ex.dep]; omega)
      | nil =>
        refine ifF (by decide +kernel) ?_
        refine ⟨_, rfl, st, c, _, rfl, g1.2, by decide, by decide, fun H2 i g2 ii0 ii1 => ?_⟩
        refine ⟨(by show 2 ≤ sizeLine; decide), fun p1 hp1 => ?_⟩
        have g3 := Go.new (o := .tup [.str "num", .int i]) g2.2 hp1
        refine ⟨(by show 2 ≤ sizeLine; decide), fun p2 hp2 => ?_⟩
        have g4 := Go.new (o := .tup [.str "iota", .ref p1]) g3.2 hp2
        have g14 := (g2.trans g3).trans g4
        have kt := g14.kt g1.2
        refine ⟨_, rfl, _, rfl, _, rfl, b, _, _, _, rfl, rfl, .inl (.inl (kt _ _ hb)), rfl, m, rfl, st, c, n, u, k, G, L, rfl, g4.2, hN1.go g1.2 g14, hG, hL, hu.kt kt, by omega, by omega, fun H5 e1 v1 g5 a1 t1 s1 d1 => ?_⟩
        refine ⟨(by show 4 ≤ sizeLine; decide), fun p hp => ?_⟩
        exact q _ (.bnd true "i" (.f1 "iota" (.num i)) e1) _ (((g1.trans g14).trans g5).trans (Go.new g5.2 hp)) (mkE hp ((mk1 hp2 mkNum).kt (g5.kt g4.2)) a1)
          (fun S => ty_each (ty_1 rfl ty1_iota) (ty_le (Gm.le_put hG.1 .num) (t1 S))) (by simp only [Ex.sz, LB]; omega) (by simp only [Ex.dep, nsw_of (n := i) ⟨by omega, by omega⟩, nmw_of (x := "i") (by decide +kernel)]; omega)
  refine ⟨_, pss_cons (ps_set (i := 3) nd rfl (Or.inl rfl) (pe_call G_law_vars (hr.mono (by omega)) rfl T.law_vars.g T.law_vars.F.kp T.law_vars.b .nil pass0 (pa_cons (pv 1) (pa_cons (pv 2) pa_nil)))) (pss_cons (ps_if (PW.pt (pw_and (pt_cmpR op_gt (pe_callB call_len_seq (by rfl) T.len PySem.boot_len (pa_cons (pv 3) pa_nil)) pe_int (nomark _)) (pw_and1 (pt_cmpR op_gt (pe_call G_law_draw (hr.mono (by omega)) rfl T.law_draw.g T.law_draw.F.kp T.law_draw.b .nil pass0 (pa_cons (pv 0) (pa_cons pe_int pa_nil))) pe_int (nomark _))))) (pss_one (ps_ret (pe_tup (pa_cons pe_str (pa_cons (pe_call G_law_pick (hr.mono (by omega)) rfl T.law_pick.g T.law_pick.F.kp T.law_pick.b .nil pass0 (pa_cons (pv 0) (pa_cons (pv 3) pa_nil))) pa_nil))))) pss_nil) hb), ?_⟩
  refine ⟨_, rfl, _, rfl, n, kv, k, G, L, rfl, hN, hL, hk, by omega, fun H1 r xs sm hr0 hr1 hx hl => ?_⟩
  have g1 := Go.same hS sm
  obtain ⟨n1, n2⟩ := hS.ne2 hr0
  refine ⟨_, rfl, r, _, rfl, .inl (SqL.of hr1), _, _, rfl, rfl, _, rfl, ?_⟩
  refine ite2 (fun c1 => ?_) (fun c1 => hread r xs H1 g1 hr1 n1 n2 hx)
  refine ⟨_, rfl, st, c, _, rfl, g1.2, by decide, by decide, fun H2 i g2 _ _ => ?_⟩
  refine ⟨_, _, rfl, rfl, _, rfl, ?_⟩
  refine ite2 (fun c2 => ?_) (fun c2 => hread r xs H2 (g1.trans g2) (g2.1 _ _ n1 n2 hr1) n1 n2 hx)
  refine ⟨_, rfl, _, rfl, st, c, r, _, rfl, g2.2, g2.1 _ _ n1 n2 hr1, n1, n2, ?_, ?_, fun H3 x g3 hx3 => ?_⟩
  · have := of_decide_eq_true c1
    omega
  · rw [List.length_map]; omega
  · obtain ⟨y, hy, rfl⟩ := List.mem_map.mp hx3
    refine ⟨(by show 2 ≤ sizeLine; decide), fun p hp => ?_⟩
    exact q _ (.var y) _ (((g1.trans g2).trans g3).trans (Go.new g3.2 hp)) mkVar (fun _ => hx y hy) szl (by simp only [Ex.dep]; omega)
end
end K2

namespace K2
open PySem PySem.Spec PyProof.Rows L2
/-! ### programs -/
def FnsAt (H : Hp) : List Fn → List V → Prop
  | [], [] => True
  | f :: fs, v :: vs => FnAt H f v ∧ FnsAt H fs vs
  | _, _ => False
theorem FnsAt.kt {H H' : Hp} (t : Kt H H') : ∀ {fs : List Fn} {vs : List V}, FnsAt H fs vs → FnsAt H' fs vs
  | [], [], _ => trivial
  | _ :: _, _ :: _, ⟨a, b⟩ => ⟨a.kt t, b.kt t⟩
  | [], _ :: _, h => h.elim
  | _ :: _, [], h => h.elim
theorem FnsAt.len {H : Hp} : ∀ {fs : List Fn} {vs : List V}, FnsAt H fs vs → vs.length = fs.length
  | [], [], _ => rfl
  | _ :: fs, _ :: vs, ⟨_, b⟩ => by rw [List.length_cons, List.length_cons, b.len]
  | [], _ :: _, h => h.elim
  | _ :: _, [], h => h.elim
theorem FnsAt.get {H : Hp} : ∀ {fs : List Fn} {vs : List V}, FnsAt H fs vs → ∀ {i : Nat} {v : V}, vs[i]? = some v → ∃ f, fs[i]? = some f ∧ FnAt H f v
  | [], [], _, _, _, e => by simp at e
  | f :: _, v :: _, ⟨a, _⟩, 0, _, e => by
    simp at e
    exact ⟨f, rfl, by rw [← e]; exact a⟩
  | _ :: _, _ :: _, ⟨_, b⟩, i + 1, _, e => b.get (i := i) (by simpa using e)
  | [], _ :: _, h, _, _, _ => h.elim
  | _ :: _, [], h, _, _, _ => h.elim
theorem FnsAt.snoc {H : Hp} {f : Fn} {v : V} (h : FnAt H f v) : ∀ {fs : List Fn} {vs : List V}, FnsAt H fs vs → FnsAt H (fs ++ [f]) (vs ++ [v])
  | [], [], _ => ⟨h, trivial⟩
  | _ :: _, _ :: _, ⟨a, b⟩ => ⟨a, b.snoc h⟩
  | [], _ :: _, h => h.elim
  | _ :: _, [], h => h.elim
def PgAt (H : Hp) (p : Addr) (fs : List Fn) : Prop := ∃ vs, H p = some (.lst vs) ∧ FnsAt H fs vs
def sg (fs : List Fn) : Sg := fs.map fun f => (f.name, f.given, f.result)
structure FsOk (fs : List Fn) : Prop where
  nd : (fs.map (·.name)).Nodup
  dp : ∀ f ∈ fs, f.given.dep ≤ 3 ∧ f.result.dep ≤ 4
  len : fs.length ≤ 8
theorem find_sg : ∀ {fs : List Fn} {f : Fn}, (fs.map (·.name)).Nodup → f ∈ fs → find (sg fs) f.name = some (f.given, f.result)
  | [], _, _, h => nomatch h
  | g :: fs, f, nd, h => by
    rw [List.map_cons, List.nodup_cons] at nd
    rcases List.mem_cons.mp h with rfl | h
    · unfold find sg; simp
    · have ne : ¬ g.name = f.name := fun e => nd.1 (by rw [e]; exact List.mem_map_of_mem (f := (·.name)) h)
      have := find_sg nd.2 h
      unfold find sg at this ⊢
      simpa [ne] using this
structure Wd (H : Hp) (st c p n : Addr) (fs : List Fn) (G : Gm) (L : Nat) : Prop where
  s : StAt H st c
  pp : PgAt H p fs
  n1 : p ≠ st
  n2 : p ≠ c
  nm : NmAt H n G L
  nk : Nk G
  ok : FsOk fs
theorem Wd.go {H H' : Hp} {st c p n : Addr} {fs : List Fn} {G : Gm} {L : Nat} (h : Wd H st c p n fs G L) (g : Go st c H H') : Wd H' st c p n fs G L :=
  ⟨g.2, let ⟨vs, e, f⟩ := h.pp; ⟨vs, g.1 _ _ h.n1 h.n2 e, f.kt (g.kt h.s)⟩, h.n1, h.n2, h.nm.go h.s g, h.nk, h.ok⟩
theorem Wd.same {H H' : Hp} {st c p n : Addr} {fs : List Fn} {G : Gm} {L : Nat} (h : Wd H st c p n fs G L) (t : Same H H') : Wd H' st c p n fs G L := h.go (Go.same h.s t)
def ExQ (H : Hp) (st c : Addr) (fs : List Fn) (G : Gm) (k : Kd) (N D : Nat) (Q : VK) : Prop := ∀ (H' : Hp) (e : Ex) (v : V), Go st c H H' → ExAt H' e v → ty (sg fs) G e = some k → e.sz ≤ N → e.dep ≤ D → Q v H'
def spExpr (okk : Kd → Prop) (M d N D : Nat) : Sp := fun vs H Q _ => ∃ (st c p n : Addr) (kv : V) (k : Kd) (fs : List Fn) (G : Gm) (L : Nat) (z : Int), vs = [.ref st, .ref p, .ref n, kv, .int z] ∧ z = d ∧ Wd H st c p n fs G L ∧ KdAt H k kv ∧ okk k ∧ k.dep + d ≤ M ∧ L + d ≤ 40 ∧ ExQ H st c fs G k N D Q
def spNum (M d N D : Nat) : Sp := fun vs H Q _ => ∃ (st c p n : Addr) (fs : List Fn) (G : Gm) (L : Nat) (z : Int), vs = [.ref st, .ref p, .ref n, .int z] ∧ z = d ∧ Wd H st c p n fs G L ∧ 1 + d ≤ M ∧ L + d ≤ 40 ∧ ExQ H st c fs G .num N D Q
def spSeq (okS : Prop) (M d N D : Nat) : Sp := fun vs H Q _ => ∃ (st c p n : Addr) (kv : V) (k : Kd) (fs : List Fn) (G : Gm) (L : Nat) (z : Int), vs = [.ref st, .ref p, .ref n, kv, .int z] ∧ z = d ∧ Wd H st c p n fs G L ∧ KdAt H k kv ∧ okS ∧ k.dep + 1 + d ≤ M ∧ L + d ≤ 40 ∧ ExQ H st c fs G (.seq k) N D Q
section
variable {P : Program} {w : World} {K : PySem.W.Frag} {mg : Str → Option Value} {base : Heap} {a : GAd}
theorem less {CX : CXT} {k d : Nat} {f : Addr} {fd : FuncData} {ps : List Str} {sp : Nat → Sp} (h : ∀ e, e < d → FnOk P w K mg base CX k f fd ps (sp e)) : FnOk P w K mg base CX k f fd ps (fun vs H Q E => ∃ e, e < d ∧ sp e vs H Q E) :=
  ⟨fun vs H Q E ⟨e, he, q⟩ => (h e he).len vs H Q E q, fun A outer s H args us vs Q E hr h0 hb hv ⟨e, he, q⟩ => (h e he).run A outer s H args us vs Q E hr h0 hb hv q⟩
theorem either {CX : CXT} {k : Nat} {f : Addr} {fd : FuncData} {ps : List Str} {sp sp' : Sp} (h : FnOk P w K mg base CX k f fd ps sp) (h' : FnOk P w K mg base CX k f fd ps sp') : FnOk P w K mg base CX k f fd ps (fun vs H Q E => sp vs H Q E ∨ sp' vs H Q E) :=
  ⟨fun vs H Q E q => q.elim (h.len vs H Q E) (h'.len vs H Q E), fun A outer s H args us vs Q E hr h0 hb hv q => q.elim (h.run A outer s H args us vs Q E hr h0 hb hv) (h'.run A outer s H args us vs Q E hr h0 hb hv)⟩
theorem ok_law_num (T : GTxt K mg a) {M d N0 D0 lv : Nat} (hlv : 4 ≤ lv) (GE : FnOk P w K mg base CX0 lv a.law_expr.1 a.law_expr.2 ["state", "program", "names", "kind", "deep"] (spExpr (fun _ => True) M d N0 D0)) :
    FnOk P w K mg base CX0 (lv + 1) a.law_num.1 a.law_num.2 ["state", "program", "names", "deep"] (spNum M (d + 1) (2 * N0 + 3) (D0 + 2)) := by
  refine T.law_num.F.ok sc_law_num (fun vs H Q E h => ?_) (fun cdv A outer s H vs Q E hr h => ?_)
  · obtain ⟨_, _, _, _, _, _, _, _, rfl, _⟩ := h
    rfl
  obtain ⟨st, c, p, n, fs, G, L, zd, rfl, hz, W, hM, hL, q⟩ := h
  have nd := sc_law_num.nd
  have G_law_draw := ok_law_draw (P := P) (w := w) (base := base) T
  have G_law_pick := ok_law_pick (P := P) (w := w) (base := base) T
  have G_law_expr := GE
  have esub : zd - 1 = (d : Int) := by omega
  refine ⟨_, (pss_cons (ps_set (i := 4) nd rfl (Or.inl rfl) (pe_call G_law_draw (hr.mono (by omega)) rfl T.law_draw.g T.law_draw.F.kp T.law_draw.b .nil pass0 (pa_cons (pv 0) (pa_cons pe_int pa_nil))))
  (pss_cons (ps_if (pt_cmpR op_eq (pv 4) pe_int (nomark _)) (pss_one (ps_ret (pe_tup (pa_cons pe_str (pa_cons (pe_call G_law_expr (hr.mono (by omega)) rfl T.law_expr.g T.law_expr.F.kp T.law_expr.b .nil pass0 (pa_cons (pv 0) (pa_cons (pv 1) (pa_cons (pv 2) (pa_cons (pe_tup (pa_cons pe_str (pa_cons (pe_tup (pa_cons pe_str pa_nil)) pa_nil))) (pa_cons (pe_op op_sub (pv 3) pe_int) pa_nil)))))) pa_nil))))) pss_nil)
  (pss_cons (ps_if (pt_cmpR op_eq (pv 4) pe_int (nomark _)) (pss_one (ps_ret (pe_tup (pa_cons pe_str (pa_cons (pe_call G_law_expr (hr.mono (by omega)) rfl T.law_expr.g T.law_expr.F.kp T.law_expr.b .nil pass0 (pa_cons (pv 0) (pa_cons (pv 1) (pa_cons (pv 2) (pa_cons (pe_tup (pa_cons pe_str (pa_cons (pe_tup (pa_cons pe_str pa_nil)) pa_nil))) (pa_cons (pe_op op_sub (pv 3) pe_int) pa_nil)))))) pa_nil))))) pss_nil)
  (pss_cons (ps_set (i := 5) nd rfl (Or.inl rfl) (pe_call G_law_pick (hr.mono (by omega)) rfl T.law_pick.g T.law_pick.F.kp T.law_pick.b .nil pass0 (pa_cons (pv 0) (pa_cons (pe_lst (pa_cons pe_str (pa_cons pe_str (pa_cons pe_str (pa_cons pe_str (pa_cons pe_str (pa_cons pe_str (pa_cons pe_str (pa_cons pe_str (pa_cons pe_str (pa_cons pe_str (pa_cons pe_str (pa_cons pe_str pa_nil))))))))))))) pa_nil))))
  (pss_cons (ps_set (i := 6) nd rfl (Or.inl rfl) (pe_call G_law_expr (hr.mono (by omega)) rfl T.law_expr.g T.law_expr.F.kp T.law_expr.b .nil pass0 (pa_cons (pv 0) (pa_cons (pv 1) (pa_cons (pv 2) (pa_cons (pe_tup (pa_cons pe_str pa_nil)) (pa_cons (pe_op op_sub (pv 3) pe_int) pa_nil)))))))
  (pss_cons (ps_if (PW.pt (pw_and (pt_cmpR op_in_seq (pv 5) (pe_tup (pa_cons pe_str (pa_cons pe_str pa_nil))) (by rfl)) (pw_and1 (pt_cmpR op_gt (pe_call G_law_draw (hr.mono (by omega)) rfl T.law_draw.g T.law_draw.F.kp T.law_draw.b .nil pass0 (pa_cons (pv 0) (pa_cons pe_int pa_nil))) pe_int (nomark _))))) (pss_one (ps_ret (pe_tup (pa_cons pe_str (pa_cons (pv 5) (pa_cons (pv 6) (pa_cons (pe_tup (pa_cons pe_str (pa_cons (pe_call G_law_pick (hr.mono (by omega)) rfl T.law_pick.g T.law_pick.F.kp T.law_pick.b .nil pass0 (pa_cons (pv 0) (pa_cons (pe_lst (pa_cons pe_int (pa_cons (pe_un un_neg pe_int) (pa_cons pe_int pa_nil)))) pa_nil))) pa_nil))) pa_nil))))))) pss_nil)
  (pss_one (ps_ret (pe_tup (pa_cons pe_str (pa_cons (pv 5) (pa_cons (pv 6) (pa_cons (pe_call G_law_expr (hr.mono (by omega)) rfl T.law_expr.g T.law_expr.F.kp T.law_expr.b .nil pass0 (pa_cons (pv 0) (pa_cons (pv 1) (pa_cons (pv 2) (pa_cons (pe_tup (pa_cons pe_str pa_nil)) (pa_cons (pe_op op_sub (pv 3) pe_int) pa_nil)))))) pa_nil))))))))))))), ?_⟩
  refine ⟨_, rfl, st, c, _, rfl, W.s, by decide, by decide, fun H1 i g1 i0 i1 => ?_⟩
  have W1 := W.go g1
  have kN : ∀ (H1 : Hp) (p1 : Addr), KdAt (upd H1 p1 (.tup [.str "num"])) .num (.ref p1) := fun _ _ => kNum
  -- a call for a sequence of numbers
  refine ⟨_, rfl, rfl, _, rfl, ?_⟩
  refine ite2 (fun _ => ?_) (fun _ => ?_)
  · refine ⟨_, rfl, _, rfl, _, rfl, ⟨(by show 1 ≤ sizeLine; decide), fun p1 hp1 => ⟨(by show 2 ≤ sizeLine; decide), fun p2 hp2 => ?_⟩⟩⟩
    have g3 := (Go.new (o := .tup [.str "num"]) g1.2 hp1).trans (Go.new (o := .tup [.str "seq", .ref p1]) (Go.new (o := .tup [.str "num"]) g1.2 hp1).2 hp2)
    refine ⟨_, rfl, _, _, rfl, rfl, st, c, p, n, .ref p2, .seq .num, fs, G, L, _, rfl, esub, W1.go g3, kSeq hp2 kNum, trivial, by simp only [Kd.dep]; omega, by omega, fun H4 e1 v1 g4 a1 t1 s1 d1 => ?_⟩
    refine ⟨(by show 2 ≤ sizeLine; decide), fun p5 hp5 => ?_⟩
    exact q _ (.f1 "len" e1) _ (((g1.trans g3).trans g4).trans (Go.new g4.2 hp5)) (mk1 hp5 a1) (ty_1 t1 (ty1_len _)) (by simp only [Ex.sz]; omega) (by simp only [Ex.dep]; omega)
  refine ⟨_, rfl, rfl, _, rfl, ?_⟩
  refine ite2 (fun _ => ?_) (fun _ => ?_)
  · refine ⟨_, rfl, _, rfl, _, rfl, ⟨(by show 1 ≤ sizeLine; decide), fun p1 hp1 => ⟨(by show 2 ≤ sizeLine; decide), fun p2 hp2 => ?_⟩⟩⟩
    have g3 := (Go.new (o := .tup [.str "num"]) g1.2 hp1).trans (Go.new (o := .tup [.str "seq", .ref p1]) (Go.new (o := .tup [.str "num"]) g1.2 hp1).2 hp2)
    refine ⟨_, rfl, _, _, rfl, rfl, st, c, p, n, .ref p2, .seq .num, fs, G, L, _, rfl, esub, W1.go g3, kSeq hp2 kNum, trivial, by simp only [Kd.dep]; omega, by omega, fun H4 e1 v1 g4 a1 t1 s1 d1 => ?_⟩
    refine ⟨(by show 2 ≤ sizeLine; decide), fun p5 hp5 => ?_⟩
    exact q _ (.f1 "sum" e1) _ (((g1.trans g3).trans g4).trans (Go.new g4.2 hp5)) (mk1 hp5 a1) (ty_1 t1 ty1_sum) (by simp only [Ex.sz]; omega) (by simp only [Ex.dep]; omega)
  refine ⟨_, rfl, ⟨(by show 12 ≤ sizeLine; decide), fun r hr1 => ?_⟩⟩
  have g2 := Go.new (o := .lst [.str "+", .str "-", .str "*", .str "min", .str "max", .str "<", .str "=", .str "+", .str "-", .str "<", .str "/", .str "mod"]) g1.2 hr1
  obtain ⟨n1, n2⟩ := g1.2.ne2 hr1
  refine ⟨st, c, r, _, rfl, g2.2, upd_same, n1, n2, by decide, by decide, fun H3 y g3 hy => ?_⟩
  obtain ⟨sgn, rfl, hs⟩ : ∃ sgn : Str, y = V.str sgn ∧ sgn ∈ sgns := by
    simp only [List.mem_cons, List.not_mem_nil, or_false] at hy
    rcases hy with rfl | rfl | rfl | rfl | rfl | rfl | rfl | rfl | rfl | rfl | rfl | rfl <;> exact ⟨_, rfl, by decide +kernel⟩
  have g03 := (g1.trans g2).trans g3
  refine ⟨_, rfl, _, rfl, _, rfl, ⟨(by show 1 ≤ sizeLine; decide), fun p4 hp4 => ?_⟩⟩
  have g4 := Go.new (o := .tup [.str "num"]) g3.2 hp4
  refine ⟨_, rfl, _, _, rfl, rfl, st, c, p, n, .ref p4, .num, fs, G, L, _, rfl, esub, W.go (g03.trans g4), kNum, trivial, by simp only [Kd.dep]; omega, by omega, fun H5 e1 v1 g5 a1 t1 s1 d1 => ?_⟩
  have g05 := (g03.trans g4).trans g5
  have last : ∀ (H6 : Hp) (p6 : Addr) (e2 : Ex) (v2 : V), Go st c H5 H6 → H6 p6 = none → ExAt H6 e2 v2 → ty (sg fs) G e2 = some .num → e2.sz ≤ N0 + 1 → e2.dep ≤ D0 + 1 → Q (.ref p6) (upd H6 p6 (.tup [.str "op", .str sgn, v1, v2])) := fun H6 p6 e2 v2 g6 hp6 a2 t2 s2 d2 =>
    q _ (.op sgn e1 e2) _ ((g05.trans g6).trans (Go.new g6.2 hp6)) (mkO hp6 (a1.kt (g6.kt g5.2)) a2) (ty_op hs t1 t2) (by simp only [Ex.sz]; omega) (by simp only [Ex.dep]; omega)
  refine ⟨_, rfl, ⟨(by show 2 ≤ sizeLine; decide), fun p6 hp6 => ?_⟩⟩
  have g6 := Go.new (o := .tup [.str "/", .str "mod"]) g5.2 hp6
  refine ⟨p6, _, rfl, .inr (.inl (.inl upd_same)), rfl, rfl, _, rfl, ?_⟩
  refine ite2 (fun _ => ?_) (fun _ => ?_)
  · refine ⟨_, rfl, st, c, _, rfl, g6.2, by decide, by decide, fun H7 i7 g7 _ _ => ?_⟩
    have g6 := g6.trans g7
    refine ⟨_, _, rfl, rfl, _, rfl, ?_⟩
    refine ite2 (fun _ => ?_) (fun _ => ?_)
    · refine ⟨_, rfl, _, rfl, _, rfl, _, rfl, ⟨(by show 3 ≤ sizeLine; decide), fun r8 hr8 => ?_⟩⟩
      have g8 := Go.new (o := .lst [.int 2, .int (-3), .int 7]) g6.2 hr8
      obtain ⟨m1, m2⟩ := g6.2.ne2 hr8
      refine ⟨st, c, r8, _, rfl, g8.2, upd_same, m1, m2, by decide, by decide, fun H9 y g9 hy => ?_⟩
      obtain ⟨i9, rfl, ii⟩ : ∃ i9 : Int, y = V.int i9 ∧ InR i9 := by
        simp only [List.mem_cons, List.not_mem_nil, or_false] at hy
        rcases hy with rfl | rfl | rfl <;> exact ⟨_, rfl, by decide, by decide⟩
      refine ⟨(by show 2 ≤ sizeLine; decide), fun pA hpA => ?_⟩
      refine ⟨(by show 4 ≤ sizeLine; decide), fun pB hpB => ?_⟩
      have gA := Go.new (o := .tup [.str "num", .int i9]) g9.2 hpA
      exact last _ _ _ _ (((g6.trans g8).trans g9).trans gA) hpB mkNum rfl (by simp only [Ex.sz]; omega) (by simp only [Ex.dep, nsw_of ii]; omega)
    · refine ⟨_, rfl, _, rfl, _, rfl, _, rfl, _, rfl, ⟨(by show 1 ≤ sizeLine; decide), fun p7 hp7 => ?_⟩⟩
      have g7 := Go.new (o := .tup [.str "num"]) g6.2 hp7
      refine ⟨_, rfl, _, _, rfl, rfl, st, c, p, n, .ref p7, .num, fs, G, L, _, rfl, esub, W.go ((g05.trans g6).trans g7), kNum, trivial, by simp only [Kd.dep]; omega, by omega, fun H8 e2 v2 g8 a2 t2 s2 d2 => ?_⟩
      refine ⟨(by show 4 ≤ sizeLine; decide), fun p9 hp9 => ?_⟩
      exact last _ _ _ _ ((g6.trans g7).trans g8) hp9 a2 t2 (by omega) (by omega)
  · refine ⟨_, rfl, _, rfl, _, rfl, _, rfl, _, rfl, ⟨(by show 1 ≤ sizeLine; decide), fun p7 hp7 => ?_⟩⟩
    have g7 := Go.new (o := .tup [.str "num"]) g6.2 hp7
    refine ⟨_, rfl, _, _, rfl, rfl, st, c, p, n, .ref p7, .num, fs, G, L, _, rfl, esub, W.go ((g05.trans g6).trans g7), kNum, trivial, by simp only [Kd.dep]; omega, by omega, fun H8 e2 v2 g8 a2 t2 s2 d2 => ?_⟩
    refine ⟨(by show 4 ≤ sizeLine; decide), fun p9 hp9 => ?_⟩
    exact last _ _ _ _ ((g6.trans g7).trans g8) hp9 a2 t2 (by omega) (by omega)
end
end K2

namespace K2
open PySem PySem.Spec PyProof.Rows L2
theorem xya {x : Str} (h : x ∈ (["x", "y", "a"] : List Str)) : x ∈ shorts := by
  simp only [List.mem_cons, List.not_mem_nil, or_false] at h
  rcases h with rfl | rfl | rfl <;> decide +kernel
theorem Ex.dep_pos : ∀ e : Ex, 1 ≤ e.dep := fun e => by
  cases e with
  | num n => exact nsw_pos n
  | _ => simp only [Ex.dep] <;> omega
theorem ExAt.head {H : Hp} : ∀ {e : Ex} {v : V}, ExAt H e v → ∃ b w xs, v = .ref b ∧ H b = some (.tup (.str w :: xs))
  | .num _, _, ⟨a, e, h⟩ => ⟨a, _, _, e, h⟩
  | .var _, _, ⟨a, e, h⟩ => ⟨a, _, _, e, h⟩
  | .bnd _ _ _ _, _, ⟨a, u, w, e, h, x, y⟩ => ⟨a, _, _, e, h⟩
  | .op _ _ _, _, ⟨a, u, w, e, h, x, y⟩ => ⟨a, _, _, e, h⟩
  | .f2 _ _ _, _, ⟨a, u, w, e, h, x, y⟩ => ⟨a, _, _, e, h⟩
  | .call _ _, _, ⟨a, u, e, h, x⟩ => ⟨a, _, _, e, h⟩
  | .f1 _ _, _, ⟨a, u, e, h, x⟩ => ⟨a, _, _, e, h⟩
  | .ite _ _ _, _, ⟨a, c, u, w, e, h, z, x, y⟩ => ⟨a, _, _, e, h⟩
section
variable {P : Program} {w : World} {K : PySem.W.Frag} {mg : Str → Option Value} {base : Heap} {a : GAd}
theorem ok_law_seq (T : GTxt K mg a) {M d N0 D0 N1 D1 lv : Nat} (hlv : 4 ≤ lv) (hM20 : M ≤ 20) (GE : FnOk P w K mg base CX0 lv a.law_expr.1 a.law_expr.2 ["state", "program", "names", "kind", "deep"] (spExpr (fun _ => True) M d N0 D0))
    (GN : FnOk P w K mg base CX0 lv a.law_expr.1 a.law_expr.2 ["state", "program", "names", "kind", "deep"] (spExpr (fun k => k = .num) M 1 N1 D1)) :
    FnOk P w K mg base CX0 (lv + 1) a.law_seq.1 a.law_seq.2 ["state", "program", "names", "kind", "deep"] (spSeq True M (d + 1) (2 * N0 + N1 + 5) (max (D0 + 2) (D1 + 3))) := by
  refine T.law_seq.F.ok sc_law_seq (fun vs H Q E h => ?_) (fun cdv A outer s H vs Q E hr h => ?_)
  · obtain ⟨_, _, _, _, _, _, _, _, _, _, rfl, _⟩ := h
    rfl
  obtain ⟨st, c, p, n, kv, k, fs, G, L, zd, rfl, hz, W, hk, _, hM, hL, q⟩ := h
  have nd := sc_law_seq.nd
  have kp := k.dep_pos
  have G_law_draw := ok_law_draw (P := P) (w := w) (base := base) T
  have G_law_pick := ok_law_pick (P := P) (w := w) (base := base) T
  have G_law_number := ok_law_number (P := P) (w := w) (base := base) T
  have G_law_with := ok_law_with (P := P) (w := w) (base := base) T
  have G_law_expr := either GE GN
  have esub : zd - 1 = (d : Int) := by omega
  obtain ⟨tr, hb, hread⟩ : ∃ tr, PSs (cxOf CX0 P w K mg base ["state", "program", "names", "kind", "deep", "choice", "s", "inner", "name"] "_law_seq" (defScope s_law_seq) a.law_seq.1 cdv A outer s H E).nox ((defBody s_law_seq).drop 5) tr ∧
      ∀ (i : Int) (H1 : Hp), Go st c H H1 → tr { nx := fun _ H' => Q .non H', rt := Q } [some (.ref st), some (.ref p), some (.ref n), some kv, some (.int zd), some (.int i), none, none, none] H1 := by
    refine ⟨_, (pss_cons (ps_set (i := 7) nd rfl (Or.inl rfl) (pe_call G_law_pick (hr.mono (by omega)) rfl T.law_pick.g T.law_pick.F.kp T.law_pick.b .nil pass0 (pa_cons (pv 0) (pa_cons (pe_lst (pa_cons (pe_tup (pa_cons pe_str pa_nil)) (pa_cons (pe_tup (pa_cons pe_str pa_nil)) (pa_cons (pv 3) (pa_cons (pe_tup (pa_cons pe_str (pa_cons (pe_tup (pa_cons pe_str pa_nil)) pa_nil))) pa_nil))))) pa_nil))))
  (pss_cons (ps_set (i := 8) nd rfl (Or.inl rfl) (pe_call G_law_pick (hr.mono (by omega)) rfl T.law_pick.g T.law_pick.F.kp T.law_pick.b .nil pass0 (pa_cons (pv 0) (pa_cons (pe_lst (pa_cons pe_str (pa_cons pe_str (pa_cons pe_str pa_nil)))) pa_nil))))
  (pss_cons (ps_set (i := 6) nd rfl (Or.inl rfl) (pe_call G_law_expr (hr.mono (by omega)) rfl T.law_expr.g T.law_expr.F.kp T.law_expr.b .nil pass0 (pa_cons (pv 0) (pa_cons (pv 1) (pa_cons (pv 2) (pa_cons (pe_tup (pa_cons pe_str (pa_cons (pv 7) pa_nil))) (pa_cons (pe_op op_sub (pv 4) pe_int) pa_nil)))))))
  (pss_one (ps_ret (pe_tup (pa_cons pe_str (pa_cons (pv 8) (pa_cons (pv 6) (pa_cons (pe_call G_law_expr (hr.mono (by omega)) rfl T.law_expr.g T.law_expr.F.kp T.law_expr.b .nil pass0 (pa_cons (pv 0) (pa_cons (pv 1) (pa_cons (pe_call G_law_with (hr.mono (by omega)) rfl T.law_with.g T.law_with.F.kp T.law_with.b .nil pass0 (pa_cons (pv 2) (pa_cons (pv 8) (pa_cons (pv 7) pa_nil)))) (pa_cons (pv 3) (pa_cons (pe_op op_sub (pv 4) pe_int) pa_nil)))))) pa_nil)))))))))), fun i H1 g1 => ?_⟩
    have hk1 := hk.kt (g1.kt W.s)
    refine ⟨_, rfl, ⟨(by show 1 ≤ sizeLine; decide), fun p1 hp1 => ⟨(by show 1 ≤ sizeLine; decide), fun p2 hp2 => ⟨_, rfl, ⟨(by show 1 ≤ sizeLine; decide), fun p3 hp3 => ⟨(by show 2 ≤ sizeLine; decide), fun p4 hp4 => ⟨(by show 4 ≤ sizeLine; decide), fun r hr5 => ?_⟩⟩⟩⟩⟩⟩⟩
    have q1 : Go st c H1 (upd H1 p1 (.tup [.str "num"])) := Go.new g1.2 hp1
    have q2 := Go.new (o := .tup [.str "num"]) q1.2 hp2
    have q3 := Go.new (o := .tup [.str "num"]) q2.2 hp3
    have q4 := Go.new (o := .tup [.str "seq", .ref p3]) q3.2 hp4
    have q5 := Go.new (o := .lst [.ref p1, .ref p2, kv, .ref p4]) q4.2 hr5
    have q25 := ((q2.trans q3).trans q4).trans q5
    have k1 := (kNum (H := H1) (p := p1)).kt (q25.kt q1.2)
    have k2 := (kNum (H := upd H1 p1 (.tup [.str "num"])) (p := p2)).kt (((q3.trans q4).trans q5).kt q2.2)
    have k4 := (kSeq hp4 kNum).kt (q5.kt q4.2)
    have g5 := (g1.trans q1).trans q25
    obtain ⟨n1, n2⟩ := q4.2.ne2 hr5
    refine ⟨st, c, r, _, rfl, q5.2, upd_same, n1, n2, by show 0 < 4; decide, by show 4 ≤ 1000; decide, fun H6 u g6 hu => ?_⟩
    have kt6 := g6.kt q5.2
    obtain ⟨j, hj, hjd⟩ : ∃ j, KdAt H6 j u ∧ j.dep ≤ max k.dep 2 := by
      simp only [List.mem_cons, List.not_mem_nil, or_false] at hu
      rcases hu with rfl | rfl | rfl | rfl
      · exact ⟨.num, k1.kt kt6, by simp only [Kd.dep]; omega⟩
      · exact ⟨.num, k2.kt kt6, by simp only [Kd.dep]; omega⟩
      · exact ⟨k, (hk.kt (g5.kt W.s)).kt kt6, by omega⟩
      · exact ⟨.seq .num, k4.kt kt6, by simp only [Kd.dep]; omega⟩
    have g06 := g5.trans g6
    refine ⟨_, rfl, ⟨(by show 3 ≤ sizeLine; decide), fun r7 hr7 => ?_⟩⟩
    obtain ⟨m1, m2⟩ := g6.2.ne2 hr7
    have g7 := Go.new (o := .lst [.str "x", .str "y", .str "a"]) g6.2 hr7
    refine ⟨st, c, r7, _, rfl, g7.2, upd_same, m1, m2, by show 0 < 3; decide, by show 3 ≤ 1000; decide, fun H8 u8 g8 hu8 => ?_⟩
    obtain ⟨x, rfl, hx⟩ : ∃ x : Str, u8 = V.str x ∧ x ∈ (["x", "y", "a"] : List Str) := by
      simp only [List.mem_cons, List.not_mem_nil, or_false] at hu8
      rcases hu8 with rfl | rfl | rfl <;> exact ⟨_, rfl, by decide +kernel⟩
    have g08 := (g06.trans g7).trans g8
    have j8 := hj.kt ((g7.trans g8).kt g6.2)
    refine ⟨_, rfl, _, rfl, _, rfl, _, rfl, ⟨(by show 2 ≤ sizeLine; decide), fun p9 hp9 => ?_⟩⟩
    have g9 := Go.new (o := .tup [.str "seq", u]) g8.2 hp9
    have W9 := W.go (g08.trans g9)
    refine ⟨_, rfl, _, _, rfl, rfl, .inl ⟨st, c, p, n, .ref p9, .seq j, fs, G, L, _, rfl, esub, W9, kSeq hp9 j8, trivial, by simp only [Kd.dep]; omega, by omega, fun HA e1 v1 gA a1 t1 s1 d1 => ?_⟩⟩
    have WA := W9.go gA
    refine ⟨_, rfl, _, rfl, _, rfl, _, rfl, _, rfl, _, rfl, _, rfl, n, x, u, j, G, L, rfl, WA.nm, by omega, j8.kt ((g9.trans gA).kt g8.2), by omega, fun HB nB sB _ nmB => ?_⟩
    have gB := Go.same gA.2 sB
    have WB := WA.go gB
    have WB' : Wd HB st c p nB fs (G.put x j) (L + 1) := ⟨gB.2, WB.pp, W.n1, W.n2, nmB, W.nk.put hx j, W.ok⟩
    have g0B := ((g08.trans g9).trans gA).trans gB
    refine ⟨_, rfl, _, rfl, _, _, rfl, rfl, .inl ⟨st, c, p, nB, kv, k, fs, G.put x j, L + 1, _, rfl, esub, WB', hk.kt (g0B.kt W.s), trivial, by omega, by omega, fun HC e2 v2 gC a2 t2 s2 d2 => ?_⟩⟩
    refine ⟨(by show 4 ≤ sizeLine; decide), fun pD hpD => ?_⟩
    exact q _ (.bnd true x e1 e2) _ ((g0B.trans gC).trans (Go.new gC.2 hpD)) (mkE hpD (a1.kt ((gB.trans gC).kt gA.2)) a2) (ty_each t1 t2) (by simp only [Ex.sz]; omega) (by simp only [Ex.dep, nmw_of (xya hx)]; omega)
  refine ⟨_, pss_cons (ps_set (i := 5) nd rfl (Or.inl rfl) (pe_call G_law_draw (hr.mono (by omega)) rfl T.law_draw.g T.law_draw.F.kp T.law_draw.b .nil pass0 (pa_cons (pv 0) (pa_cons pe_int pa_nil)))) (pss_cons (ps_if (PW.pt (pw_and (pt_cmpR op_eq (pv 5) pe_int (nomark _)) (pw_and1 (pt_cmpR (op_eqDK (K := K) rfl hr.units) (pv 3) (pe_tup (pa_cons pe_str pa_nil)) (nomark _))))) (pss_cons (ps_if (pt_cmpR op_eq (pe_call G_law_draw (hr.mono (by omega)) rfl T.law_draw.g T.law_draw.F.kp T.law_draw.b .nil pass0 (pa_cons (pv 0) (pa_cons pe_int pa_nil))) pe_int (nomark _)) (pss_one (ps_ret (pe_tup (pa_cons pe_str (pa_cons (pe_tup (pa_cons pe_str (pa_cons (pe_call G_law_number (hr.mono (by omega)) rfl T.law_number.g T.law_number.F.kp T.law_number.b .nil pass0 (pa_cons (pv 0) pa_nil)) pa_nil))) pa_nil))))) pss_nil)
  (pss_one (ps_ret (pe_tup (pa_cons pe_str (pa_cons (pe_tup (pa_cons pe_str (pa_cons pe_str (pa_cons (pe_call G_law_expr (hr.mono (by omega)) rfl T.law_expr.g T.law_expr.F.kp T.law_expr.b .nil pass0 (pa_cons (pv 0) (pa_cons (pv 1) (pa_cons (pv 2) (pa_cons (pv 3) (pa_cons (pe_op op_sub (pv 4) pe_int) pa_nil)))))) (pa_cons (pe_tup (pa_cons pe_str (pa_cons pe_int pa_nil))) pa_nil))))) pa_nil)))))) pss_nil) (pss_cons (ps_if (pt_cmpR op_eq (pv 5) pe_int (nomark _)) (pss_one (ps_ret (pe_tup (pa_cons pe_str (pa_cons (pe_call G_law_expr (hr.mono (by omega)) rfl T.law_expr.g T.law_expr.F.kp T.law_expr.b .nil pass0 (pa_cons (pv 0) (pa_cons (pv 1) (pa_cons (pv 2) (pa_cons (pe_tup (pa_cons pe_str (pa_cons (pe_tup (pa_cons pe_str (pa_cons (pv 3) pa_nil))) pa_nil))) (pa_cons (pe_op op_sub (pv 4) pe_int) pa_nil)))))) pa_nil))))) pss_nil) (pss_cons (ps_if (pt_cmpR op_eq (pv 5) pe_int (nomark _)) (pss_cons (ps_set (i := 6) nd rfl (Or.inl rfl) (pe_call G_law_expr (hr.mono (by omega)) rfl T.law_expr.g T.law_expr.F.kp T.law_expr.b .nil pass0 (pa_cons (pv 0) (pa_cons (pv 1) (pa_cons (pv 2) (pa_cons (pe_tup (pa_cons pe_str (pa_cons (pv 3) pa_nil))) (pa_cons (pe_op op_sub (pv 4) pe_int) pa_nil)))))))
  (pss_cons (ps_if (PW.pt (pw_and (pt_cmpR op_eq (pe_ix ix_tup (pv 6) pe_int (fun _ _ => rfl)) pe_str (nomark _)) (pw_and1 (pt_cmpR op_gt (pe_call G_law_draw (hr.mono (by omega)) rfl T.law_draw.g T.law_draw.F.kp T.law_draw.b .nil pass0 (pa_cons (pv 0) (pa_cons pe_int pa_nil))) pe_int (nomark _))))) (pss_one (ps_ret (pe_tup (pa_cons pe_str (pa_cons (pv 6) (pa_cons (pe_tup (pa_cons pe_str (pa_cons pe_str (pa_cons (pv 6) (pa_cons (pe_tup (pa_cons pe_str (pa_cons pe_str (pa_cons (pe_tup (pa_cons pe_str (pa_cons pe_int pa_nil))) (pa_cons (pe_call G_law_expr (hr.mono (by omega)) rfl T.law_expr.g T.law_expr.F.kp T.law_expr.b .nil pass0 (pa_cons (pv 0) (pa_cons (pv 1) (pa_cons (pv 2) (pa_cons (pe_tup (pa_cons pe_str pa_nil)) (pa_cons pe_int pa_nil)))))) pa_nil))))) pa_nil))))) pa_nil)))))) pss_nil)
  (pss_one (ps_ret (pe_tup (pa_cons pe_str (pa_cons (pv 6) (pa_cons (pe_call G_law_expr (hr.mono (by omega)) rfl T.law_expr.g T.law_expr.F.kp T.law_expr.b .nil pass0 (pa_cons (pv 0) (pa_cons (pv 1) (pa_cons (pv 2) (pa_cons (pe_tup (pa_cons pe_str (pa_cons (pe_tup (pa_cons pe_str pa_nil)) pa_nil))) (pa_cons (pe_op op_sub (pv 4) pe_int) pa_nil)))))) pa_nil)))))))) pss_nil) (pss_cons (ps_if (pt_cmpR op_eq (pv 5) pe_int (nomark _)) (pss_cons (ps_set (i := 6) nd rfl (Or.inl rfl) (pe_call G_law_expr (hr.mono (by omega)) rfl T.law_expr.g T.law_expr.F.kp T.law_expr.b .nil pass0 (pa_cons (pv 0) (pa_cons (pv 1) (pa_cons (pv 2) (pa_cons (pe_tup (pa_cons pe_str (pa_cons (pv 3) pa_nil))) (pa_cons (pe_op op_sub (pv 4) pe_int) pa_nil)))))))
  (pss_one (ps_ret (pe_tup (pa_cons pe_str (pa_cons (pv 6) (pa_cons (pe_call G_law_expr (hr.mono (by omega)) rfl T.law_expr.g T.law_expr.F.kp T.law_expr.b .nil pass0 (pa_cons (pv 0) (pa_cons (pv 1) (pa_cons (pv 2) (pa_cons (pe_tup (pa_cons pe_str (pa_cons (pv 3) pa_nil))) (pa_cons (pe_op op_sub (pv 4) pe_int) pa_nil)))))) pa_nil))))))) pss_nil) hb)))), ?_⟩
  refine ⟨_, rfl, st, c, _, rfl, W.s, by decide, by decide, fun H1 i g1 i0 i1 => ?_⟩
  have W1 := W.go g1
  have hk1 := hk.kt (g1.kt W.s)
  -- the ways of 1, 2, 3, and the rest
  refine ⟨_, rfl, rfl, _, rfl, ?_⟩
  refine ite2 (fun c0 => ?_) (fun c0 => ?_)
  · obtain rfl : i = 0 := V.int.inj (of_decide_eq_true c0)
    refine ⟨_, rfl, ⟨(by show 1 ≤ sizeLine; decide), fun p2 hp2 => ?_⟩⟩
    have g2 := Go.new (o := .tup [.str "num"]) g1.2 hp2
    refine ⟨_, _, (hk1.kt (g2.kt g1.2)).dp, (kNum (H := H1) (p := p2)).dp, Kd.shaped (by omega), Kd.shaped (by decide), _, rfl, ?_⟩
    rw [Kd.eqv]
    have g02 := g1.trans g2
    have W2 := W.go g02
    refine ite2 (fun c1 => ?_) (fun c1 => ?_)
    · obtain rfl : k = .num := of_decide_eq_true c1
      refine ⟨_, rfl, st, c, _, rfl, g2.2, by decide, by decide, fun H3 i3 g3 _ _ => ?_⟩
      refine ⟨rfl, _, rfl, ?_⟩
      refine ite2 (fun _ => ?_) (fun _ => ?_)
      · refine ⟨_, rfl, st, c, rfl, g3.2, fun H4 i4 g4 ii => ?_⟩
        refine ⟨(by show 2 ≤ sizeLine; decide), fun p5 hp5 => ?_⟩
        have g5 := Go.new (o := .tup [.str "num", .int i4]) g4.2 hp5
        refine ⟨(by show 2 ≤ sizeLine; decide), fun p6 hp6 => ?_⟩
        exact q _ (.f1 "iota" (.num i4)) _ ((((g02.trans g3).trans g4).trans g5).trans (Go.new g5.2 hp6)) (mk1 hp6 mkNum) (ty_1 rfl ty1_iota) (by simp only [Ex.sz]; omega) (by simp only [Ex.dep, nsw_of ii]; omega)
      · refine ⟨_, rfl, _, rfl, _, rfl, _, rfl, _, rfl, _, _, rfl, rfl, .inl ⟨st, c, p, n, kv, .num, fs, G, L, _, rfl, esub, W2.go g3, hk1.kt ((g2.trans g3).kt g1.2), trivial, by omega, by omega, fun H4 e1 v1 g4 a1 t1 s1 d1 => ?_⟩⟩
        refine ⟨(by show 2 ≤ sizeLine; decide), fun p5 hp5 => ?_⟩
        have g5 := Go.new (o := .tup [.str "num", .int 4]) g4.2 hp5
        refine ⟨(by show 4 ≤ sizeLine; decide), fun p6 hp6 => ?_⟩
        have g6 := Go.new (o := .tup [.str "op", .str "mod", v1, .ref p5]) g5.2 hp6
        refine ⟨(by show 2 ≤ sizeLine; decide), fun p7 hp7 => ?_⟩
        exact q _ (.f1 "iota" (.op "mod" e1 (.num 4))) _ (((((g02.trans g3).trans g4).trans g5).trans g6).trans (Go.new g6.2 hp7)) (mk1 hp7 (mkO hp6 (a1.kt (g5.kt g4.2)) mkNum)) (ty_1 (ty_op (by decide +kernel) t1 rfl) ty1_iota) (by simp only [Ex.sz]; omega) (by simp only [Ex.dep, nsw_of (n := 4) (by unfold InR; decide)]; omega)
    · refine ⟨_, rfl, rfl, _, rfl, ?_⟩
      refine ifF (by decide) ?_
      refine ⟨_, rfl, rfl, _, rfl, ?_⟩
      refine ifF (by decide) ?_
      refine ⟨_, rfl, rfl, _, rfl, ?_⟩
      refine ifF (by decide) ?_
      exact hread _ _ g02
  refine ⟨_, rfl, rfl, _, rfl, ?_⟩
  refine ite2 (fun c1 => ?_) (fun c1 => ?_)
  · -- flat
    refine ⟨_, rfl, _, rfl, _, rfl, _, rfl, ⟨(by show 2 ≤ sizeLine; decide), fun p2 hp2 => ⟨(by show 2 ≤ sizeLine; decide), fun p3 hp3 => ?_⟩⟩⟩
    have g2 := Go.new (o := .tup [.str "seq", kv]) g1.2 hp2
    have g3 := Go.new (o := .tup [.str "seq", .ref p2]) g2.2 hp3
    have g03 := (g1.trans g2).trans g3
    refine ⟨_, rfl, _, _, rfl, rfl, .inl ⟨st, c, p, n, .ref p3, .seq (.seq k), fs, G, L, _, rfl, esub, W.go g03, kSeq hp3 (kSeq hp2 hk1), trivial, by simp only [Kd.dep]; omega, by omega, fun H4 e1 v1 g4 a1 t1 s1 d1 => ?_⟩⟩
    refine ⟨(by show 2 ≤ sizeLine; decide), fun p5 hp5 => ?_⟩
    exact q _ (.f1 "flat" e1) _ ((g03.trans g4).trans (Go.new g4.2 hp5)) (mk1 hp5 a1) (ty_1 t1 (ty1_flat k)) (by simp only [Ex.sz]; omega) (by simp only [Ex.dep]; omega)
  refine ⟨_, rfl, rfl, _, rfl, ?_⟩
  refine ite2 (fun c2 => ?_) (fun c2 => ?_)
  · -- keep
    refine ⟨_, rfl, _, rfl, _, rfl, _, rfl, ⟨(by show 2 ≤ sizeLine; decide), fun p2 hp2 => ?_⟩⟩
    have g2 := Go.new (o := .tup [.str "seq", kv]) g1.2 hp2
    have g02 := g1.trans g2
    refine ⟨_, rfl, _, _, rfl, rfl, .inl ⟨st, c, p, n, .ref p2, .seq k, fs, G, L, _, rfl, esub, W.go g02, kSeq hp2 hk1, trivial, by simp only [Kd.dep]; omega, by omega, fun H3 e1 v1 g3 a1 t1 s1 d1 => ?_⟩⟩
    have g03 := g02.trans g3
    obtain ⟨b, hw, xs, rfl, hb1⟩ := a1.head
    have plain : ∀ H4, Go st c H3 H4 → ∀ (p9 : Addr) (e2 : Ex) (v2 : V), H4 p9 = none → ExAt H4 e2 v2 → ty (sg fs) G e2 = some (.seq .num) → e2.sz ≤ N0 + N1 + 4 → e2.dep ≤ max (D0 + 1) (D1 + 2) → Q (.ref p9) (upd H4 p9 (.tup [.str "keep", .ref b, v2])) := fun H4 g4 p9 e2 v2 hp9 a2 t2 s2 d2 =>
      q _ (.f2 "keep" e1 e2) _ ((g03.trans g4).trans (Go.new g4.2 hp9)) (mk2 hp9 (a1.kt (g4.kt g3.2)) a2) (ty_2 t1 t2 (ty2_keep k)) (by simp only [Ex.sz]; omega) (by simp only [Ex.dep]; omega)
    refine ⟨_, rfl, b, _, _, _, rfl, rfl, .inl (.inl hb1), atI_nat (j := 0) rfl, rfl, _, rfl, ?_⟩
    refine ite2 (fun c3 => ?_) (fun c3 => ?_)
    · refine ⟨_, rfl, st, c, _, rfl, g3.2, by decide, by decide, fun H4 i4 g4 _ _ => ?_⟩
      refine ⟨_, _, rfl, rfl, _, rfl, ?_⟩
      refine ite2 (fun c4 => ?_) (fun c4 => ?_)
      · refine ⟨_, rfl, _, rfl, ⟨(by show 2 ≤ sizeLine; decide), fun p5 hp5 => ?_⟩⟩
        have g5 := Go.new (o := .tup [.str "num", .int 0]) g4.2 hp5
        refine ⟨_, rfl, _, rfl, _, rfl, ⟨(by show 1 ≤ sizeLine; decide), fun p6 hp6 => ?_⟩⟩
        have g6 := Go.new (o := .tup [.str "num"]) g5.2 hp6
        have g46 := (g4.trans g5).trans g6
        refine .inr ⟨st, c, p, n, .ref p6, .num, fs, G, L, 1, rfl, rfl, W.go (g03.trans g46), kNum, rfl, by simp only [Kd.dep]; omega, by omega, fun H7 e2 v2 g7 a2 t2 s2 d2 => ?_⟩
        refine ⟨(by show 4 ≤ sizeLine; decide), fun p8 hp8 => ?_⟩
        have g8 := Go.new (o := .tup [.str "op", .str "<", .ref p5, v2]) g7.2 hp8
        refine ⟨(by show 4 ≤ sizeLine; decide), fun p9 hp9 => ?_⟩
        have g9 := Go.new (o := .tup [.str "each", .str "k", .ref b, .ref p8]) g8.2 hp9
        refine ⟨(by show 3 ≤ sizeLine; decide), fun pA hpA => ?_⟩
        have body := mkO hp8 ((mkNum (H := H4) (p := p5) (n := 0)).kt ((g6.trans g7).kt g5.2)) a2 (s := "<")
        have src := a1.kt (((g46.trans g7).trans g8).kt g3.2)
        refine plain _ (((g46.trans g7).trans g8).trans g9) pA (.bnd true "k" e1 (.op "<" (.num 0) e2)) _ hpA (mkE hp9 src body) (ty_each t1 (ty_op (by decide +kernel) rfl (ty_le (Gm.le_put W.nk.2 k) t2))) (by simp only [Ex.sz]; omega) (by have := e2.dep_pos; simp only [Ex.dep, nsw_of (n := 0) (by unfold InR; decide), nmw_of (x := "k") (by decide +kernel)]; omega)
      · refine ⟨_, rfl, _, rfl, _, rfl, _, rfl, ⟨(by show 1 ≤ sizeLine; decide), fun p5 hp5 => ⟨(by show 2 ≤ sizeLine; decide), fun p6 hp6 => ?_⟩⟩⟩
        have g5 := Go.new (o := .tup [.str "num"]) g4.2 hp5
        have g6 := Go.new (o := .tup [.str "seq", .ref p5]) g5.2 hp6
        have g46 := (g4.trans g5).trans g6
        refine ⟨_, rfl, _, _, rfl, rfl, .inl ⟨st, c, p, n, .ref p6, .seq .num, fs, G, L, _, rfl, esub, W.go (g03.trans g46), kSeq hp6 kNum, trivial, by simp only [Kd.dep]; omega, by omega, fun H7 e2 v2 g7 a2 t2 s2 d2 => ?_⟩⟩
        refine ⟨(by show 3 ≤ sizeLine; decide), fun p9 hp9 => ?_⟩
        exact plain _ (g46.trans g7) _ _ _ hp9 a2 t2 (by omega) (by omega)
    · refine ⟨_, rfl, _, rfl, _, rfl, _, rfl, ⟨(by show 1 ≤ sizeLine; decide), fun p5 hp5 => ⟨(by show 2 ≤ sizeLine; decide), fun p6 hp6 => ?_⟩⟩⟩
      have g5 := Go.new (o := .tup [.str "num"]) g3.2 hp5
      have g6 := Go.new (o := .tup [.str "seq", .ref p5]) g5.2 hp6
      have g46 := g5.trans g6
      refine ⟨_, rfl, _, _, rfl, rfl, .inl ⟨st, c, p, n, .ref p6, .seq .num, fs, G, L, _, rfl, esub, W.go (g03.trans g46), kSeq hp6 kNum, trivial, by simp only [Kd.dep]; omega, by omega, fun H7 e2 v2 g7 a2 t2 s2 d2 => ?_⟩⟩
      refine ⟨(by show 3 ≤ sizeLine; decide), fun p9 hp9 => ?_⟩
      exact plain _ (g46.trans g7) _ _ _ hp9 a2 t2 (by omega) (by omega)
  refine ⟨_, rfl, rfl, _, rfl, ?_⟩
  refine ite2 (fun c3 => ?_) (fun c3 => hread _ _ g1)
  -- append
  refine ⟨_, rfl, _, rfl, _, rfl, _, rfl, ⟨(by show 2 ≤ sizeLine; decide), fun p2 hp2 => ?_⟩⟩
  have g2 := Go.new (o := .tup [.str "seq", kv]) g1.2 hp2
  have g02 := g1.trans g2
  refine ⟨_, rfl, _, _, rfl, rfl, .inl ⟨st, c, p, n, .ref p2, .seq k, fs, G, L, _, rfl, esub, W.go g02, kSeq hp2 hk1, trivial, by simp only [Kd.dep]; omega, by omega, fun H3 e1 v1 g3 a1 t1 s1 d1 => ?_⟩⟩
  have g03 := g02.trans g3
  refine ⟨_, rfl, _, rfl, _, rfl, _, rfl, _, rfl, ⟨(by show 2 ≤ sizeLine; decide), fun p4 hp4 => ?_⟩⟩
  have g4 := Go.new (o := .tup [.str "seq", kv]) g3.2 hp4
  refine ⟨_, rfl, _, _, rfl, rfl, .inl ⟨st, c, p, n, .ref p4, .seq k, fs, G, L, _, rfl, esub, W.go (g03.trans g4), kSeq hp4 (hk1.kt ((g2.trans g3).kt g1.2)), trivial, by simp only [Kd.dep]; omega, by omega, fun H5 e2 v2 g5 a2 t2 s2 d2 => ?_⟩⟩
  refine ⟨(by show 3 ≤ sizeLine; decide), fun p6 hp6 => ?_⟩
  exact q _ (.f2 "append" e1 e2) _ (((g03.trans g4).trans g5).trans (Go.new g5.2 hp6)) (mk2 hp6 (a1.kt ((g4.trans g5).kt g3.2)) a2) (ty_2 t1 t2 (ty2_append k)) (by simp only [Ex.sz]; omega) (by simp only [Ex.dep]; omega)
end
end K2

namespace K2
open PySem PySem.Spec PyProof.Rows L2
section
variable {P : Program} {w : World} {K : PySem.W.Frag} {mg : Str → Option Value} {base : Heap} {a : GAd}
theorem expr_step (T : GTxt K mg a) {M d N0 D0 N D lv : Nat} {okk : Kd → Prop} {okS : Prop} (hlv : 24 ≤ lv) (hM20 : M ≤ 20) (hdM : d + 2 ≤ M)
    (GE : FnOk P w K mg base CX0 lv a.law_expr.1 a.law_expr.2 ["state", "program", "names", "kind", "deep"] (fun vs H Q E => ∃ e, e < d ∧ spExpr (fun _ => True) M e N0 D0 vs H Q E))
    (GN : FnOk P w K mg base CX0 lv a.law_num.1 a.law_num.2 ["state", "program", "names", "deep"] (fun vs H Q E => ∃ e, d = e + 1 ∧ spNum M (e + 1) N D vs H Q E))
    (GS : FnOk P w K mg base CX0 lv a.law_seq.1 a.law_seq.2 ["state", "program", "names", "kind", "deep"] (fun vs H Q E => ∃ e, d = e + 1 ∧ spSeq okS M (e + 1) N D vs H Q E))
    (hok : ∀ k, okk (.seq k) → okS) (hN1 : LB M ≤ N) (hD1 : M + 3 ≤ D) (hN2 : 3 * N0 + 10 ≤ N) (hD2 : D0 + 2 ≤ D) :
    FnOk P w K mg base CX0 (lv + 1) a.law_expr.1 a.law_expr.2 ["state", "program", "names", "kind", "deep"] (spExpr okk M d N D) := by
  refine T.law_expr.F.ok sc_law_expr (fun vs H Q E h => ?_) (fun cdv A outer s H vs Q E hr h => ?_)
  · obtain ⟨_, _, _, _, _, _, _, _, _, _, rfl, _⟩ := h
    rfl
  obtain ⟨st, c, p, n, kv, k, fs, G, L, zd, rfl, hz, W, hk, hokk, hM, hL, q⟩ := h
  have nd := sc_law_expr.nd
  have kp := k.dep_pos
  have G_law_draw := ok_law_draw (P := P) (w := w) (base := base) T
  have G_law_pick := ok_law_pick (P := P) (w := w) (base := base) T
  have G_law_with := ok_law_with (P := P) (w := w) (base := base) T
  have G_law_leaf := ok_law_leaf (P := P) (w := w) (base := base) T M
  have G_law_expr := GE
  have G_law_num := GN
  have G_law_seq := GS
  obtain ⟨tr, hb, hread⟩ : ∃ tr, PSs (cxOf CX0 P w K mg base ["state", "program", "names", "kind", "deep", "choice", "test", "first", "other", "name", "value", "s", "item", "rows", "word"] "_law_expr" (defScope s_law_expr) a.law_expr.1 cdv A outer s H E).nox ((defBody s_law_expr).drop 7) tr ∧
      ∀ (i : Int) (e : Nat) (v13 : Option V) (H1 : Hp), d = e + 1 → Go st c H H1 → tr { nx := fun _ H' => Q .non H', rt := Q } [some (.ref st), some (.ref p), some (.ref n), some kv, some (.int zd), some (.int i), none, none, none, none, none, none, none, v13, none] H1 := by
    refine ⟨_, (pss_cons (ps_if (pt_cmpR op_eq (pe_ix ix_tup (pv 3) pe_int (fun _ _ => rfl)) pe_str (nomark _)) (pss_cons (ps_set (i := 7) nd rfl (Or.inl rfl) (pe_call G_law_expr (hr.mono (by omega)) rfl T.law_expr.g T.law_expr.F.kp T.law_expr.b .nil pass0 (pa_cons (pv 0) (pa_cons (pv 1) (pa_cons (pv 2) (pa_cons (pe_ix ix_tup (pv 3) pe_int (fun _ _ => rfl)) (pa_cons (pe_op op_sub (pv 4) pe_int) pa_nil)))))))
  (pss_one (ps_ret (pe_tup (pa_cons pe_str (pa_cons (pv 7) (pa_cons (pe_call G_law_expr (hr.mono (by omega)) rfl T.law_expr.g T.law_expr.F.kp T.law_expr.b .nil pass0 (pa_cons (pv 0) (pa_cons (pv 1) (pa_cons (pv 2) (pa_cons (pe_ix ix_tup (pv 3) pe_int (fun _ _ => rfl)) (pa_cons (pe_op op_sub (pv 4) pe_int) pa_nil)))))) pa_nil))))))) pss_nil)
  (pss_cons (ps_if (pt_cmpR op_eq (pe_ix ix_tup (pv 3) pe_int (fun _ _ => rfl)) pe_str (nomark _)) (pss_one (ps_ret (pe_call G_law_seq (hr.mono (by omega)) rfl T.law_seq.g T.law_seq.F.kp T.law_seq.b .nil pass0 (pa_cons (pv 0) (pa_cons (pv 1) (pa_cons (pv 2) (pa_cons (pe_ix ix_tup (pv 3) pe_int (fun _ _ => rfl)) (pa_cons (pv 4) pa_nil)))))))) pss_nil)
  (pss_one (ps_ret (pe_call G_law_num (hr.mono (by omega)) rfl T.law_num.g T.law_num.F.kp T.law_num.b .nil pass0 (pa_cons (pv 0) (pa_cons (pv 1) (pa_cons (pv 2) (pa_cons (pv 4) pa_nil))))))))), fun i e v13 H1 he g1 => ?_⟩
    have esub : zd - 1 = (e : Int) := by omega
    have hk1 := hk.kt (g1.kt W.s)
    have W1 := W.go g1
    cases k with
    | num =>
      obtain ⟨b, rfl, hb⟩ := hk1
      refine ⟨_, rfl, b, _, _, _, rfl, rfl, .inl (.inl hb), rfl, rfl, _, rfl, ?_⟩
      refine ifF (by decide +kernel) ?_
      refine ⟨_, rfl, b, _, _, _, rfl, rfl, .inl (.inl hb), rfl, rfl, _, rfl, ?_⟩
      refine ifF (by decide +kernel) ?_
      exact ⟨_, rfl, _, rfl, _, rfl, _, rfl, e, he, st, c, p, n, fs, G, L, _, rfl, by omega, W1, by simp only [Kd.dep] at hM; omega, by omega, fun H' e1 v1 g2 a1 t1 s1 d1 => q _ e1 _ (g1.trans g2) a1 t1 s1 d1⟩
    | seq k =>
      obtain ⟨b, u, rfl, hb, hu⟩ := hk1
      refine ⟨_, rfl, b, _, _, _, rfl, rfl, .inl (.inl hb), rfl, rfl, _, rfl, ?_⟩
      refine ifF (by decide +kernel) ?_
      refine ⟨_, rfl, b, _, _, _, rfl, rfl, .inl (.inl hb), rfl, rfl, _, rfl, ?_⟩
      refine ifT rfl ?_
      exact ⟨_, rfl, _, rfl, _, rfl, _, rfl, b, _, _, _, rfl, rfl, .inl (.inl hb), rfl, _, rfl, e, he, st, c, p, n, u, k, fs, G, L, _, rfl, by omega, W1, hu, hok k hokk, by simp only [Kd.dep] at hM; omega, by omega, fun H' e1 v1 g2 a1 t1 s1 d1 => q _ e1 _ (g1.trans g2) a1 t1 s1 d1⟩
    | pair k l =>
      simp only [Kd.dep] at hM
      obtain ⟨b, u, v, rfl, hb, hu, hv⟩ := hk1
      refine ⟨_, rfl, b, _, _, _, rfl, rfl, .inl (.inl hb), rfl, rfl, _, rfl, ?_⟩
      refine ifT rfl ?_
      refine ⟨_, rfl, _, rfl, _, rfl, _, rfl, b, _, _, _, rfl, rfl, .inl (.inl hb), rfl, _, rfl, _, _, rfl, rfl, e, by omega, st, c, p, n, u, k, fs, G, L, _, rfl, esub, W1, hu, trivial, by omega, by omega, fun H2 e1 v1 g2 a1 t1 s1 d1 => ?_⟩
      have kt2 := g2.kt g1.2
      refine ⟨_, rfl, _, rfl, _, rfl, _, rfl, _, rfl, b, _, _, _, rfl, rfl, .inl (.inl (kt2 _ _ hb)), rfl, _, rfl, _, _, rfl, rfl, e, by omega, st, c, p, n, v, l, fs, G, L, _, rfl, esub, W1.go g2, hv.kt kt2, trivial, by omega, by omega, fun H3 e2 v2 g3 a2 t2 s2 d2 => ?_⟩
      refine ⟨(by show 3 ≤ sizeLine; decide), fun p4 hp4 => ?_⟩
      exact q _ (.f2 "pair" e1 e2) _ (((g1.trans g2).trans g3).trans (Go.new g3.2 hp4)) (mk2 hp4 (a1.kt (g3.kt g2.2)) a2) (ty_2 t1 t2 (ty2_pair k l)) (by simp only [Ex.sz]; omega) (by simp only [Ex.dep]; omega)
  refine ⟨_, pss_cons (ps_set (i := 5) nd rfl (Or.inl rfl) (pe_call G_law_draw (hr.mono (by omega)) rfl T.law_draw.g T.law_draw.F.kp T.law_draw.b .nil pass0 (pa_cons (pv 0) (pa_cons pe_int pa_nil)))) (pss_cons (ps_if (PW.pt (pw_or (pt_cmpR op_le (pv 4) pe_int (nomark _)) (pw_or1 (pt_cmpR op_eq (pv 5) pe_int (nomark _))))) (pss_one (ps_ret (pe_call G_law_leaf (hr.mono (by omega)) rfl T.law_leaf.g T.law_leaf.F.kp T.law_leaf.b .nil pass0 (pa_cons (pv 0) (pa_cons (pv 2) (pa_cons (pv 3) pa_nil)))))) pss_nil) (pss_cons (ps_if (pt_cmpR op_eq (pv 5) pe_int (nomark _)) (pss_cons (ps_set (i := 6) nd rfl (Or.inl rfl) (pe_call G_law_expr (hr.mono (by omega)) rfl T.law_expr.g T.law_expr.F.kp T.law_expr.b .nil pass0 (pa_cons (pv 0) (pa_cons (pv 1) (pa_cons (pv 2) (pa_cons (pe_tup (pa_cons pe_str pa_nil)) (pa_cons (pe_op op_sub (pv 4) pe_int) pa_nil)))))))
  (pss_cons (ps_set (i := 7) nd rfl (Or.inl rfl) (pe_call G_law_expr (hr.mono (by omega)) rfl T.law_expr.g T.law_expr.F.kp T.law_expr.b .nil pass0 (pa_cons (pv 0) (pa_cons (pv 1) (pa_cons (pv 2) (pa_cons (pv 3) (pa_cons (pe_op op_sub (pv 4) pe_int) pa_nil)))))))
  (pss_one (ps_ret (pe_tup (pa_cons pe_str (pa_cons (pv 6) (pa_cons (pv 7) (pa_cons (pe_call G_law_expr (hr.mono (by omega)) rfl T.law_expr.g T.law_expr.F.kp T.law_expr.b .nil pass0 (pa_cons (pv 0) (pa_cons (pv 1) (pa_cons (pv 2) (pa_cons (pv 3) (pa_cons (pe_op op_sub (pv 4) pe_int) pa_nil)))))) pa_nil))))))))) pss_nil) (pss_cons (ps_if (pt_cmpR op_eq (pv 5) pe_int (nomark _)) (pss_cons (ps_set (i := 8) nd rfl (Or.inl rfl) (pe_call G_law_pick (hr.mono (by omega)) rfl T.law_pick.g T.law_pick.F.kp T.law_pick.b .nil pass0 (pa_cons (pv 0) (pa_cons (pe_lst (pa_cons (pe_tup (pa_cons pe_str pa_nil)) (pa_cons (pe_tup (pa_cons pe_str (pa_cons (pe_tup (pa_cons pe_str pa_nil)) pa_nil))) (pa_cons (pe_tup (pa_cons pe_str (pa_cons (pe_tup (pa_cons pe_str pa_nil)) (pa_cons (pe_tup (pa_cons pe_str pa_nil)) pa_nil)))) pa_nil)))) pa_nil))))
  (pss_cons (ps_set (i := 9) nd rfl (Or.inl rfl) (pe_call G_law_pick (hr.mono (by omega)) rfl T.law_pick.g T.law_pick.F.kp T.law_pick.b .nil pass0 (pa_cons (pv 0) (pa_cons (pe_lst (pa_cons pe_str (pa_cons pe_str pa_nil))) pa_nil))))
  (pss_cons (ps_set (i := 10) nd rfl (Or.inl rfl) (pe_call G_law_expr (hr.mono (by omega)) rfl T.law_expr.g T.law_expr.F.kp T.law_expr.b .nil pass0 (pa_cons (pv 0) (pa_cons (pv 1) (pa_cons (pv 2) (pa_cons (pv 8) (pa_cons (pe_op op_sub (pv 4) pe_int) pa_nil)))))))
  (pss_one (ps_ret (pe_tup (pa_cons pe_str (pa_cons (pv 9) (pa_cons (pv 10) (pa_cons (pe_call G_law_expr (hr.mono (by omega)) rfl T.law_expr.g T.law_expr.F.kp T.law_expr.b .nil pass0 (pa_cons (pv 0) (pa_cons (pv 1) (pa_cons (pe_call G_law_with (hr.mono (by omega)) rfl T.law_with.g T.law_with.F.kp T.law_with.b .nil pass0 (pa_cons (pv 2) (pa_cons (pv 9) (pa_cons (pv 8) pa_nil)))) (pa_cons (pv 3) (pa_cons (pe_op op_sub (pv 4) pe_int) pa_nil)))))) pa_nil)))))))))) pss_nil) (pss_cons (ps_if (pt_cmpR op_eq (pv 5) pe_int (nomark _)) (pss_cons (ps_set (i := 11) nd rfl (Or.inl rfl) (pe_call G_law_expr (hr.mono (by omega)) rfl T.law_expr.g T.law_expr.F.kp T.law_expr.b .nil pass0 (pa_cons (pv 0) (pa_cons (pv 1) (pa_cons (pv 2) (pa_cons (pe_tup (pa_cons pe_str (pa_cons (pv 3) pa_nil))) (pa_cons (pe_op op_sub (pv 4) pe_int) pa_nil)))))))
  (pss_one (ps_ret (pe_tup (pa_cons pe_str (pa_cons (pv 11) (pa_cons (pe_call G_law_expr (hr.mono (by omega)) rfl T.law_expr.g T.law_expr.F.kp T.law_expr.b .nil pass0 (pa_cons (pv 0) (pa_cons (pv 1) (pa_cons (pv 2) (pa_cons (pe_tup (pa_cons pe_str pa_nil)) (pa_cons (pe_callB (call_min2 rfl) (by rfl) T.min (by decide +kernel) (pa_cons pe_int (pa_cons (pe_op op_sub (pv 4) pe_int) pa_nil))) pa_nil)))))) pa_nil))))))) pss_nil) (pss_cons (ps_if (pt_cmpR op_eq (pv 5) pe_int (nomark _)) (pss_cons (ps_setLc (i := 13) (own := [("item", 12)]) (g := gName 12) rfl nd rfl rfl (sw_true rfl rfl rfl (by decide +kernel)) (pi_list (pv 1)) (blkOk_by (N := ["state", "program", "names", "kind", "deep", "choice", "test", "first", "other", "name", "value", "s", "item", "rows", "word"]) (sc := defScope s_law_expr) (by decide +kernel)) (fun _ _ _ _ _ => (pg_name (i := 12) nd rfl (Or.inl rfl))) (fun _ _ _ _ _ => (pts_one (pt_cmpR (op_eqDK (K := K) rfl hr.units) (pe_ix (ix_tupK (K := K) rfl) (pv 12) pe_int (fun _ _ => rfl)) (pv 3) (nomark _)))) (fun _ _ _ _ _ => (pv 12)))
  (pss_one (ps_if (pt_cmpR op_gt (pe_callB call_len_seq (by rfl) T.len PySem.boot_len (pa_cons (pv 13) pa_nil)) pe_int (nomark _)) (pss_cons (ps_set (i := 12) nd rfl (Or.inl rfl) (pe_call G_law_pick (hr.mono (by omega)) rfl T.law_pick.g T.law_pick.F.kp T.law_pick.b .nil pass0 (pa_cons (pv 0) (pa_cons (pv 13) pa_nil))))
  (pss_one (ps_ret (pe_tup (pa_cons pe_str (pa_cons (pe_ix ix_tup (pv 12) pe_int (fun _ _ => rfl)) (pa_cons (pe_call G_law_expr (hr.mono (by omega)) rfl T.law_expr.g T.law_expr.F.kp T.law_expr.b .nil pass0 (pa_cons (pv 0) (pa_cons (pv 1) (pa_cons (pv 2) (pa_cons (pe_ix ix_tup (pv 12) pe_int (fun _ _ => rfl)) (pa_cons (pe_op op_sub (pv 4) pe_int) pa_nil)))))) pa_nil))))))) pss_nil))) pss_nil) (pss_cons (ps_if (pt_cmpR op_eq (pv 5) pe_int (nomark _)) (pss_cons (ps_set (i := 14) nd rfl (Or.inl rfl) (pe_call G_law_pick (hr.mono (by omega)) rfl T.law_pick.g T.law_pick.F.kp T.law_pick.b .nil pass0 (pa_cons (pv 0) (pa_cons (pe_lst (pa_cons pe_str (pa_cons pe_str pa_nil))) pa_nil))))
  (pss_cons (ps_if (pt_cmpR op_eq (pv 14) pe_str (nomark _)) (pss_one (ps_ret (pe_tup (pa_cons (pv 14) (pa_cons (pe_call G_law_expr (hr.mono (by omega)) rfl T.law_expr.g T.law_expr.F.kp T.law_expr.b .nil pass0 (pa_cons (pv 0) (pa_cons (pv 1) (pa_cons (pv 2) (pa_cons (pe_tup (pa_cons pe_str (pa_cons (pv 3) (pa_cons (pe_tup (pa_cons pe_str pa_nil)) pa_nil)))) (pa_cons (pe_op op_sub (pv 4) pe_int) pa_nil)))))) pa_nil))))) pss_nil)
  (pss_one (ps_ret (pe_tup (pa_cons (pv 14) (pa_cons (pe_call G_law_expr (hr.mono (by omega)) rfl T.law_expr.g T.law_expr.F.kp T.law_expr.b .nil pass0 (pa_cons (pv 0) (pa_cons (pv 1) (pa_cons (pv 2) (pa_cons (pe_tup (pa_cons pe_str (pa_cons (pe_tup (pa_cons pe_str pa_nil)) (pa_cons (pv 3) pa_nil)))) (pa_cons (pe_op op_sub (pv 4) pe_int) pa_nil)))))) pa_nil))))))) pss_nil) hb)))))), ?_⟩
  refine ⟨_, rfl, st, c, _, rfl, W.s, by decide, by decide, fun H1 i g1 i0 i1 => ?_⟩
  have W1 := W.go g1
  have hk1 := hk.kt (g1.kt W.s)
  -- a leaf
  have toleaf : spLeaf M [.ref st, .ref n, kv] H1 Q E := ⟨st, c, n, kv, k, G, L, rfl, g1.2, W1.nm, W1.nk, by omega, hk1, by omega, by omega, fun H' e1 v1 g2 a1 t1 s1 d1 => q _ e1 _ (g1.trans g2) a1 (t1 _) (by omega) (by omega)⟩
  refine ⟨_, rfl, _, _, rfl, rfl, _, rfl, ?_⟩
  refine ite2 (fun c0 => ?_) (fun c0 => ?_)
  · exact ⟨_, rfl, _, rfl, _, rfl, toleaf⟩
  obtain ⟨e, rfl⟩ : ∃ e, d = e + 1 := ⟨d - 1, by
    have : ¬ (zd ≤ 0) := fun z => c0 (decide_eq_true z)
    omega⟩
  have esub : zd - 1 = (e : Int) := by omega
  refine ⟨_, rfl, rfl, _, rfl, ?_⟩
  refine ite2 (fun c1 => ?_) (fun c1 => ?_)
  · exact ⟨_, rfl, _, rfl, _, rfl, toleaf⟩
  -- if
  refine ⟨_, rfl, rfl, _, rfl, ?_⟩
  refine ite2 (fun c2 => ?_) (fun c2 => ?_)
  · refine ⟨_, rfl, _, rfl, _, rfl, ⟨(by show 1 ≤ sizeLine; decide), fun p2 hp2 => ?_⟩⟩
    have g2 := Go.new (o := .tup [.str "num"]) g1.2 hp2
    have g02 := g1.trans g2
    refine ⟨_, rfl, _, _, rfl, rfl, e, by omega, st, c, p, n, .ref p2, .num, fs, G, L, _, rfl, esub, W.go g02, kNum, trivial, by simp only [Kd.dep]; omega, by omega, fun H3 e1 v1 g3 a1 t1 s1 d1 => ?_⟩
    have g03 := g02.trans g3
    refine ⟨_, rfl, _, rfl, _, rfl, _, rfl, _, rfl, _, _, rfl, rfl, e, by omega, st, c, p, n, kv, k, fs, G, L, _, rfl, esub, W.go g03, hk.kt (g03.kt W.s), trivial, by omega, by omega, fun H4 e2 v2 g4 a2 t2 s2 d2 => ?_⟩
    have g04 := g03.trans g4
    refine ⟨_, rfl, _, rfl, _, rfl, _, rfl, _, rfl, _, rfl, _, rfl, _, _, rfl, rfl, e, by omega, st, c, p, n, kv, k, fs, G, L, _, rfl, esub, W.go g04, hk.kt (g04.kt W.s), trivial, by omega, by omega, fun H5 e3 v3 g5 a3 t3 s3 d3 => ?_⟩
    refine ⟨(by show 4 ≤ sizeLine; decide), fun p6 hp6 => ?_⟩
    exact q _ (.ite e1 e2 e3) _ ((g04.trans g5).trans (Go.new g5.2 hp6)) (mkI hp6 (a1.kt ((g4.trans g5).kt g3.2)) (a2.kt (g5.kt g4.2)) a3) (ty_if t1 t2 t3) (by simp only [Ex.sz]; omega) (by simp only [Ex.dep]; omega)
  refine ⟨_, rfl, rfl, _, rfl, ?_⟩
  refine ite2 (fun c3 => ?_) (fun c3 => ?_)
  · refine ⟨_, rfl, ⟨(by show 1 ≤ sizeLine; decide), fun p1 hp1 => ⟨(by show 1 ≤ sizeLine; decide), fun p2 hp2 => ⟨(by show 2 ≤ sizeLine; decide), fun p3 hp3 => ⟨(by show 1 ≤ sizeLine; decide), fun p4 hp4 => ⟨(by show 1 ≤ sizeLine; decide), fun p5 hp5 => ⟨(by show 3 ≤ sizeLine; decide), fun p6 hp6 => ⟨(by show 3 ≤ sizeLine; decide), fun r hr7 => ?_⟩⟩⟩⟩⟩⟩⟩⟩
    have q1 : Go st c H1 (upd H1 p1 (.tup [.str "num"])) := Go.new g1.2 hp1
    have q2 := Go.new (o := .tup [.str "num"]) q1.2 hp2
    have q3 := Go.new (o := .tup [.str "seq", .ref p2]) q2.2 hp3
    have q4 := Go.new (o := .tup [.str "num"]) q3.2 hp4
    have q5 := Go.new (o := .tup [.str "num"]) q4.2 hp5
    have q6 := Go.new (o := .tup [.str "pair", .ref p4, .ref p5]) q5.2 hp6
    have q7 := Go.new (o := .lst [.ref p1, .ref p3, .ref p6]) q6.2 hr7
    have q47 := ((q4.trans q5).trans q6).trans q7
    have k1 := (kNum (H := H1) (p := p1)).kt (((q2.trans q3).trans q47).kt q1.2)
    have k3 := (kSeq hp3 kNum).kt (q47.kt q3.2)
    have k6 := (kPair hp6 (kNum.kt (q5.kt q4.2)) kNum).kt (q7.kt q6.2)
    have g7 := (((g1.trans q1).trans q2).trans q3).trans q47
    obtain ⟨n1, n2⟩ := q6.2.ne2 hr7
    refine ⟨st, c, r, _, rfl, q7.2, upd_same, n1, n2, by show 0 < 3; decide, by show 3 ≤ 1000; decide, fun H8 u g8 hu => ?_⟩
    have kt8 := g8.kt q7.2
    obtain ⟨j, hj, hjd⟩ : ∃ j, KdAt H8 j u ∧ j.dep ≤ 2 := by
      simp only [List.mem_cons, List.not_mem_nil, or_false] at hu
      rcases hu with rfl | rfl | rfl
      · exact ⟨.num, k1.kt kt8, by decide⟩
      · exact ⟨.seq .num, k3.kt kt8, by decide⟩
      · exact ⟨.pair .num .num, k6.kt kt8, by decide⟩
    have g08 := g7.trans g8
    refine ⟨_, rfl, ⟨(by show 2 ≤ sizeLine; decide), fun r9 hr9 => ?_⟩⟩
    obtain ⟨m1, m2⟩ := g8.2.ne2 hr9
    have g9 := Go.new (o := .lst [.str "x", .str "a"]) g8.2 hr9
    refine ⟨st, c, r9, _, rfl, g9.2, upd_same, m1, m2, by show 0 < 2; decide, by show 2 ≤ 1000; decide, fun HA uA gA huA => ?_⟩
    obtain ⟨x, rfl, hx⟩ : ∃ x : Str, uA = V.str x ∧ x ∈ (["x", "y", "a"] : List Str) := by
      simp only [List.mem_cons, List.not_mem_nil, or_false] at huA
      rcases huA with rfl | rfl <;> exact ⟨_, rfl, by decide +kernel⟩
    have g0A := (g08.trans g9).trans gA
    have jA := hj.kt ((g9.trans gA).kt g8.2)
    have WA := W.go g0A
    refine ⟨_, rfl, _, rfl, _, rfl, _, rfl, _, rfl, _, _, rfl, rfl, e, by omega, st, c, p, n, u, j, fs, G, L, _, rfl, esub, WA, jA, trivial, by omega, by omega, fun HB e1 v1 gB a1 t1 s1 d1 => ?_⟩
    have WB := WA.go gB
    refine ⟨_, rfl, _, rfl, _, rfl, _, rfl, _, rfl, _, rfl, _, rfl, n, x, u, j, G, L, rfl, WB.nm, by omega, jA.kt (gB.kt gA.2), by omega, fun HC nC sC _ nmC => ?_⟩
    have gC := Go.same gB.2 sC
    have WC : Wd HC st c p nC fs (G.put x j) (L + 1) := ⟨gC.2, (WB.go gC).pp, W.n1, W.n2, nmC, W.nk.put hx j, W.ok⟩
    have g0C := (g0A.trans gB).trans gC
    refine ⟨_, rfl, _, rfl, _, _, rfl, rfl, e, by omega, st, c, p, nC, kv, k, fs, G.put x j, L + 1, _, rfl, esub, WC, hk.kt (g0C.kt W.s), trivial, by omega, by omega, fun HD e2 v2 gD a2 t2 s2 d2 => ?_⟩
    refine ⟨(by show 4 ≤ sizeLine; decide), fun pE hpE => ?_⟩
    exact q _ (.bnd false x e1 e2) _ ((g0C.trans gD).trans (Go.new gD.2 hpE)) (mkL hpE (a1.kt ((gC.trans gD).kt gB.2)) a2) (ty_let t1 t2) (by simp only [Ex.sz]; omega) (by simp only [Ex.dep, nmw_of (xya hx)]; omega)
  -- at
  refine ⟨_, rfl, rfl, _, rfl, ?_⟩
  refine ite2 (fun c4 => ?_) (fun c4 => ?_)
  · refine ⟨_, rfl, _, rfl, _, rfl, _, rfl, ⟨(by show 2 ≤ sizeLine; decide), fun p2 hp2 => ?_⟩⟩
    have g2 := Go.new (o := .tup [.str "seq", kv]) g1.2 hp2
    have g02 := g1.trans g2
    refine ⟨_, rfl, _, _, rfl, rfl, e, by omega, st, c, p, n, .ref p2, .seq k, fs, G, L, _, rfl, esub, W.go g02, kSeq hp2 hk1, trivial, by simp only [Kd.dep]; omega, by omega, fun H3 e1 v1 g3 a1 t1 s1 d1 => ?_⟩
    have g03 := g02.trans g3
    refine ⟨_, rfl, _, rfl, _, rfl, _, rfl, ⟨(by show 1 ≤ sizeLine; decide), fun p4 hp4 => ?_⟩⟩
    have g4 := Go.new (o := .tup [.str "num"]) g3.2 hp4
    refine ⟨_, rfl, _, _, rfl, rfl, _, _, rfl, min e 1, by omega, st, c, p, n, .ref p4, .num, fs, G, L, _, rfl, ?_, W.go (g03.trans g4), kNum, trivial, by simp only [Kd.dep]; omega, by omega, fun H5 e2 v2 g5 a2 t2 s2 d2 => ?_⟩
    · show (if zd - 1 < 1 then zd - 1 else 1) = _
      split <;> omega
    refine ⟨(by show 3 ≤ sizeLine; decide), fun p6 hp6 => ?_⟩
    exact q _ (.f2 "at" e1 e2) _ (((g03.trans g4).trans g5).trans (Go.new g5.2 hp6)) (mk2 hp6 (a1.kt ((g4.trans g5).kt g3.2)) a2) (ty_2 t1 t2 (ty2_at k)) (by simp only [Ex.sz]; omega) (by simp only [Ex.dep]; omega)
  -- call
  refine ⟨_, rfl, rfl, _, rfl, ?_⟩
  refine ite2 (fun c5 => ?_) (fun c5 => ?_)
  · obtain rfl : i = 4 := V.int.inj (of_decide_eq_true c5)
    obtain ⟨vs, hvs, hfs⟩ := W1.pp
    have hvl : vs.length ≤ 8 := by rw [hfs.len]; exact W.ok.len
    refine ⟨_, rfl, p, rfl, ⟨_, SqL.of hvs⟩, fun D0 hD0 => lc_list (K := K) (a := p) (xs := vs) (fun i H2 => ∃ acc : List V, H2 = upd H1 D0 (.lst acc) ∧ acc.length ≤ i ∧ ∀ v ∈ acc, ∃ f ∈ fs, f.result = k ∧ FnAt H1 f v) ⟨[], rfl, Nat.le_refl _, fun _ z => nomatch z⟩ (fun i H2 _ h => ?_) ?_ ?_⟩
    · obtain ⟨acc, rfl, _⟩ := h
      exact SqL.of ((same_new hD0 _) _ _ hvs)
    · rintro i2 y H2 hi ⟨acc, rfl, hl, ha⟩
      obtain ⟨f, hf, hfa⟩ := hfs.get hi
      obtain ⟨b, u1, u2, u3, rfl, hb, e1, e2, e3⟩ := id hfa
      have sm := same_new hD0 (.lst acc)
      have fm := List.mem_of_getElem? hf
      have i2l : i2 < vs.length := (List.getElem?_eq_some_iff.mp hi).1
      refine ⟨rfl, _, rfl, b, _, _, _, rfl, rfl, .inl (.inl (sm _ _ hb)), atI_nat (j := 4) rfl, ?_⟩
      refine ⟨_, rfl, f.result.d, k.d, (e2.kt (Kt.of sm)).dp, (hk1.kt (Kt.of sm)).dp, Kd.shaped (by have := (W.ok.dp f fm).2; omega), Kd.shaped (by omega), _, rfl, ?_⟩
      rw [Kd.eqv]
      refine ite2 (fun c => ?_) (fun c => ?_)
      · refine ⟨_, rfl, _, upd_same, small1000 (by omega), acc ++ [.ref b], by rw [upd_upd], by rw [List.length_append]; show acc.length + 1 ≤ _; omega, fun v hv => ?_⟩
        rcases List.mem_append.mp hv with hv | hv
        · exact ha v hv
        · rw [List.mem_singleton.mp hv]
          exact ⟨f, fm, of_decide_eq_true c, hfa⟩
      · exact ⟨acc, rfl, by omega, ha⟩
    · rintro H2 ⟨acc, rfl, hl, ha⟩
      have g2 := Go.new (o := .lst acc) g1.2 hD0
      have g02 := g1.trans g2
      obtain ⟨n1, n2⟩ := g1.2.ne2 hD0
      refine ⟨_, rfl, D0, _, rfl, .inl (SqL.of upd_same), _, _, rfl, rfl, _, rfl, ?_⟩
      refine ite2 (fun c6 => ?_) (fun c6 => ?_)
      · have c7 := of_decide_eq_true c6
        refine ⟨_, rfl, _, rfl, st, c, D0, _, rfl, g2.2, upd_same, n1, n2, by omega, by omega, fun H3 y g3 hy => ?_⟩
        obtain ⟨f, fm, fr, hfa⟩ := ha y hy
        have hfa3 := hfa.kt ((g2.trans g3).kt g1.2)
        obtain ⟨b, u1, u2, u3, rfl, hb, e1, e2, e3⟩ := id hfa3
        have g03 := g02.trans g3
        refine ⟨_, rfl, b, _, _, _, rfl, rfl, .inl (.inl hb), atI_nat (j := 1) rfl, ?_⟩
        refine ⟨_, rfl, _, rfl, _, rfl, _, rfl, b, _, _, _, rfl, rfl, .inl (.inl hb), atI_nat (j := 3) rfl, ?_⟩
        refine ⟨_, rfl, _, _, rfl, rfl, e, by omega, st, c, p, n, u1, f.given, fs, G, L, _, rfl, esub, W.go g03, e1, trivial, by have := (W.ok.dp f fm).1; omega, by omega, fun H4 e4 v4 g4 a4 t4 s4 d4 => ?_⟩
        refine ⟨(by show 3 ≤ sizeLine; decide), fun p5 hp5 => ?_⟩
        exact q _ (.call f.name e4) _ ((g03.trans g4).trans (Go.new g4.2 hp5)) (mkC hp5 a4) (ty_call (by rw [find_sg W.ok.nd fm, fr]) t4) (by simp only [Ex.sz]; omega) (by simp only [Ex.dep]; omega)
      · refine ⟨_, rfl, rfl, _, rfl, ?_⟩
        refine ifF (by decide) ?_
        exact hread _ e _ _ rfl g02
  -- first, second
  refine ⟨_, rfl, rfl, _, rfl, ?_⟩
  refine ite2 (fun c6 => ?_) (fun c6 => hread _ e _ _ rfl g1)
  refine ⟨_, rfl, ⟨(by show 2 ≤ sizeLine; decide), fun r9 hr9 => ?_⟩⟩
  obtain ⟨m1, m2⟩ := g1.2.ne2 hr9
  have g9 := Go.new (o := .lst [.str "first", .str "second"]) g1.2 hr9
  refine ⟨st, c, r9, _, rfl, g9.2, upd_same, m1, m2, by show 0 < 2; decide, by show 2 ≤ 1000; decide, fun HA uA gA huA => ?_⟩
  have g0A := (g1.trans g9).trans gA
  have hkA := hk.kt (g0A.kt W.s)
  simp only [List.mem_cons, List.not_mem_nil, or_false] at huA
  rcases huA with rfl | rfl
  · refine ⟨_, rfl, rfl, _, rfl, ?_⟩
    refine ifT rfl ?_
    refine ⟨_, rfl, _, rfl, _, rfl, _, rfl, _, rfl, ⟨(by show 1 ≤ sizeLine; decide), fun p1 hp1 => ⟨(by show 3 ≤ sizeLine; decide), fun p2 hp2 => ?_⟩⟩⟩
    have h1 := Go.new (o := .tup [.str "num"]) gA.2 hp1
    have h2 := Go.new (o := .tup [.str "pair", kv, .ref p1]) h1.2 hp2
    have g02 := (g0A.trans h1).trans h2
    refine ⟨_, rfl, _, _, rfl, rfl, e, by omega, st, c, p, n, .ref p2, .pair k .num, fs, G, L, _, rfl, esub, W.go g02, kPair hp2 (hkA.kt (h1.kt gA.2)) kNum, trivial, by simp only [Kd.dep]; omega, by omega, fun H4 e4 v4 g4 a4 t4 s4 d4 => ?_⟩
    refine ⟨(by show 2 ≤ sizeLine; decide), fun p5 hp5 => ?_⟩
    exact q _ (.f1 "first" e4) _ ((g02.trans g4).trans (Go.new g4.2 hp5)) (mk1 hp5 a4) (ty_1 t4 (ty1_first k .num)) (by simp only [Ex.sz]; omega) (by simp only [Ex.dep]; omega)
  · refine ⟨_, rfl, rfl, _, rfl, ?_⟩
    refine ifF (by decide +kernel) ?_
    refine ⟨_, rfl, _, rfl, _, rfl, _, rfl, ⟨(by show 1 ≤ sizeLine; decide), fun p1 hp1 => ⟨_, rfl, ⟨(by show 3 ≤ sizeLine; decide), fun p2 hp2 => ?_⟩⟩⟩⟩
    have h1 := Go.new (o := .tup [.str "num"]) gA.2 hp1
    have h2 := Go.new (o := .tup [.str "pair", .ref p1, kv]) h1.2 hp2
    have g02 := (g0A.trans h1).trans h2
    refine ⟨_, rfl, _, _, rfl, rfl, e, by omega, st, c, p, n, .ref p2, .pair .num k, fs, G, L, _, rfl, esub, W.go g02, kPair hp2 kNum (hkA.kt (h1.kt gA.2)), trivial, by simp only [Kd.dep]; omega, by omega, fun H4 e4 v4 g4 a4 t4 s4 d4 => ?_⟩
    refine ⟨(by show 2 ≤ sizeLine; decide), fun p5 hp5 => ?_⟩
    exact q _ (.f1 "second" e4) _ ((g02.trans g4).trans (Go.new g4.2 hp5)) (mk1 hp5 a4) (ty_1 t4 (ty1_second .num k)) (by simp only [Ex.sz]; omega) (by simp only [Ex.dep]; omega)
end
end K2

namespace K2
open PySem PySem.Spec PyProof.Rows L2
/-! ### written tuples: what a display of texts, numbers, locals and such displays leaves -/
inductive Tm
  | s (x : Str)
  | i (n : Int)
  | v (k : Nat)
  | t (xs : Tm)
  | nil
  | cons (x xs : Tm)
def Tm.both : Tm → TE × TA
  | .s x => (tC (.str x), tNil)
  | .i n => (tC (.int n), tNil)
  | .v k => (tVar k, tNil)
  | .t xs => (tTup xs.both.2, tNil)
  | .nil => (tC .non, tNil)
  | .cons x xs => (tC .non, tCons x.both.1 xs.both.2)
def Tm.len : Tm → Nat
  | .cons _ xs => xs.len + 1
  | _ => 0
def Tm.fits : Tm → Bool × Bool
  | .t xs => (decide (xs.len ≤ 1000) && xs.fits.2, false)
  | .nil => (false, true)
  | .cons x xs => (false, x.fits.1 && xs.fits.2)
  | _ => (true, false)
def Tm.has (σ : L2.St) : Tm → Bool
  | .v k => match σ[k]? with
    | some (some _) => true
    | _ => false
  | .t xs => xs.has σ
  | .cons x xs => x.has σ && xs.has σ
  | _ => true
def Lit (H : Hp) (σ : L2.St) : Tm → (V → Prop) × (List V → Prop)
  | .s x => (fun v => v = .str x, fun _ => False)
  | .i n => (fun v => v = .int n, fun _ => False)
  | .v k => (fun v => σ[k]? = some (some v), fun _ => False)
  | .t xs => (fun v => ∃ a vs, v = .ref a ∧ H a = some (.tup vs) ∧ (Lit H σ xs).2 vs, fun _ => False)
  | .nil => (fun _ => False, fun vs => vs = [])
  | .cons x xs => (fun _ => False, fun vs => ∃ v ws, vs = v :: ws ∧ (Lit H σ x).1 v ∧ (Lit H σ xs).2 ws)
theorem Lit.kt {H H' : Hp} {σ : L2.St} (t : Kt H H') : ∀ T : Tm, (∀ v, (Lit H σ T).1 v → (Lit H' σ T).1 v) ∧ ∀ vs, (Lit H σ T).2 vs → (Lit H' σ T).2 vs
  | .s x => ⟨fun _ h => h, fun _ h => h⟩
  | .i n => ⟨fun _ h => h, fun _ h => h⟩
  | .v k => ⟨fun _ h => h, fun _ h => h⟩
  | .t xs => ⟨fun _ ⟨a, vs, e, h, l⟩ => ⟨a, vs, e, t _ _ h, (Lit.kt t xs).2 _ l⟩, fun _ h => h⟩
  | .nil => ⟨fun _ h => h, fun _ h => h⟩
  | .cons x xs => ⟨fun _ h => h, fun _ ⟨v, ws, e, l, m⟩ => ⟨v, ws, e, (Lit.kt t x).1 _ l, (Lit.kt t xs).2 _ m⟩⟩
theorem Lit.length {H : Hp} {σ : L2.St} : ∀ (T : Tm) (vs : List V), (Lit H σ T).2 vs → vs.length = T.len
  | .nil, _, h => by rw [show _ = _ from h]; rfl
  | .cons x xs, _, ⟨v, ws, e, _, m⟩ => by rw [e, List.length_cons, Lit.length xs ws m]; rfl
  | .s _, _, h => h.elim
  | .i _, _, h => h.elim
  | .v _, _, h => h.elim
  | .t _, _, h => h.elim
structure LitE (H : Hp) (σ : L2.St) (T : Tm) (v : V) : Prop where
  h : (Lit H σ T).1 v
def tTx (T : Tm) : TE := fun σ H Q => T.has σ = true ∧ ∀ H' v, Same H H' → LitE H' σ T v → Q v H'
theorem Tm.reads {σ : L2.St} : ∀ T : Tm, T.has σ = true →
    (T.fits.1 = true → ∀ (H : Hp) (Q : VK), (∀ H' v, Same H H' → (Lit H' σ T).1 v → Q v H') → T.both.1 σ H Q) ∧
    (T.fits.2 = true → ∀ (H : Hp) (Q : List V → Hp → Prop), (∀ H' vs, Same H H' → (Lit H' σ T).2 vs → Q vs H') → T.both.2 σ H Q)
  | .s x, _ => ⟨fun _ H Q q => q H _ (Same.refl _) rfl, fun f => Bool.noConfusion (show false = true from f)⟩
  | .i x, _ => ⟨fun _ H Q q => q H _ (Same.refl _) rfl, fun f => Bool.noConfusion (show false = true from f)⟩
  | .v k, h => ⟨fun _ H Q q => (by
      have h' : (match σ[k]? with | some (some _) => true | _ => false) = true := h
      split at h'
      · rename_i v e
        exact ⟨v, e, q H v (Same.refl _) e⟩
      · cases h'), fun f => Bool.noConfusion (show false = true from f)⟩
  | .nil, _ => ⟨fun f => Bool.noConfusion (show false = true from f), fun _ H Q q => q H [] (Same.refl _) rfl⟩
  | .cons x xs, h => ⟨fun f => Bool.noConfusion (show false = true from f), fun f H Q q => by
      obtain ⟨h1, h2⟩ := Bool.and_eq_true_iff.mp (show (x.has σ && xs.has σ) = true from h)
      obtain ⟨f1, f2⟩ := Bool.and_eq_true_iff.mp (show (x.fits.1 && xs.fits.2) = true from f)
      exact (Tm.reads x h1).1 f1 H _ fun H1 v s1 l1 => (Tm.reads xs h2).2 f2 H1 _ fun H2 vs s2 l2 => q H2 _ (s1.trans s2) ⟨v, vs, rfl, (Lit.kt (Kt.of s2) x).1 _ l1, l2⟩⟩
  | .t xs, h => ⟨fun f H Q q => (by
      obtain ⟨f1, f2⟩ := Bool.and_eq_true_iff.mp (show (decide (xs.len ≤ 1000) && xs.fits.2) = true from f)
      refine (Tm.reads xs h).2 f2 H _ fun H1 vs s1 l1 => ⟨?_, fun p hp => ?_⟩
      · rw [Lit.length xs vs l1]; exact Nat.le_of_lt (small1000 (of_decide_eq_true f1))
      · have s2 := same_new hp (.tup vs)
        exact q _ _ (s1.trans s2) ⟨p, vs, rfl, upd_same, (Lit.kt (Kt.of s2) xs).2 _ l1⟩), fun f => Bool.noConfusion (show false = true from f)⟩
/-- a written tuple -/
theorem pe_tx {X : Cx} {e : Expr} (T : Tm) (hf : T.fits.1 = true) (h : PE X e T.both.1) : PE X e (tTx T) := ⟨fun pins s σ H Q I q => h.run pins s σ H Q I ((Tm.reads T q.1).1 hf H Q fun H' v s l => q.2 H' v s ⟨l⟩)⟩
/-- the locals' texts and numbers in their places: τ tells them -/
def Tm.norm (τ : List (Option V)) : Tm → Tm
  | .v k => match τ[k]? with
    | some (some (.str x)) => .s x
    | some (some (.int n)) => .i n
    | _ => .v k
  | .t xs => .t (xs.norm τ)
  | .cons x xs => .cons (x.norm τ) (xs.norm τ)
  | .s x => .s x
  | .i x => .i x
  | .nil => .nil
def ScAt : List (Option V) → L2.St → Prop
  | some x :: es, o :: σ => o = some x ∧ ScAt es σ
  | none :: es, _ :: σ => ScAt es σ
  | [], _ => True
  | _ :: _, [] => False
theorem ScAt.get : ∀ {τ : List (Option V)} {σ : L2.St} {k : Nat} {x : V}, ScAt τ σ → τ[k]? = some (some x) → σ[k]? = some (some x)
  | some _ :: _, _ :: _, 0, _, h, p => by
    simp at p
    rw [h.1, p]; rfl
  | some _ :: _, _ :: _, k + 1, _, h, p => by
    have := h.2.get (k := k) (by simpa using p)
    simpa using this
  | none :: _, _ :: _, 0, _, h, p => by simp at p
  | none :: es, _ :: σ, k + 1, _, h, p => by
    have := ScAt.get (τ := es) (σ := σ) (k := k) h (by simpa using p)
    simpa using this
  | [], _, _, _, _, p => by simp at p
  | some _ :: _, [], _, _, h, _ => h.elim
  | none :: _, [], _, _, h, _ => h.elim
theorem Lit.norm {H : Hp} {σ : L2.St} {τ : List (Option V)} (hτ : ScAt τ σ) : ∀ T : Tm, (∀ v, (Lit H σ T).1 v → (Lit H σ (T.norm τ)).1 v) ∧ ∀ vs, (Lit H σ T).2 vs → (Lit H σ (T.norm τ)).2 vs
  | .s x => ⟨fun _ h => h, fun _ h => h⟩
  | .i n => ⟨fun _ h => h, fun _ h => h⟩
  | .v k => by
    unfold Tm.norm
    split
    · rename_i x e
      refine ⟨fun v h => ?_, fun _ h => h⟩
      have h' : σ[k]? = some (some v) := h
      rw [hτ.get e] at h'
      cases h'
      rfl
    · rename_i x e
      refine ⟨fun v h => ?_, fun _ h => h⟩
      have h' : σ[k]? = some (some v) := h
      rw [hτ.get e] at h'
      cases h'
      rfl
    · exact ⟨fun _ h => h, fun _ h => h⟩
  | .t xs => ⟨fun _ ⟨a, vs, e, h, l⟩ => ⟨a, vs, e, h, (Lit.norm hτ xs).2 _ l⟩, fun _ h => h⟩
  | .nil => ⟨fun _ h => h, fun _ h => h⟩
  | .cons x xs => ⟨fun _ h => h, fun _ ⟨v, ws, e, l, m⟩ => ⟨v, ws, e, (Lit.norm hτ x).1 _ l, (Lit.norm hτ xs).2 _ m⟩⟩
/-- a written tuple is an expression; ρ: the locals that hold expressions -/
inductive Tm.Is (ρ : List (Option Ex)) : Tm → Ex → Prop
  | slot {k e} : ρ[k]? = some (some e) → Is ρ (.v k) e
  | num {n} : Is ρ (.t (.cons (.s "num") (.cons (.i n) .nil))) (.num n)
  | var {x} : Is ρ (.t (.cons (.s "var") (.cons (.s x) .nil))) (.var x)
  | op {x a b e f} : Is ρ a e → Is ρ b f → Is ρ (.t (.cons (.s "op") (.cons (.s x) (.cons a (.cons b .nil))))) (.op x e f)
  | ea {x a b e f} : Is ρ a e → Is ρ b f → Is ρ (.t (.cons (.s "each") (.cons (.s x) (.cons a (.cons b .nil))))) (.bnd true x e f)
  | le {x a b e f} : Is ρ a e → Is ρ b f → Is ρ (.t (.cons (.s "let") (.cons (.s x) (.cons a (.cons b .nil))))) (.bnd false x e f)
  | call {x a e} : Is ρ a e → Is ρ (.t (.cons (.s "call") (.cons (.s x) (.cons a .nil)))) (.call x e)
  | f1 {w a e} : Is ρ a e → Is ρ (.t (.cons (.s w) (.cons a .nil))) (.f1 w e)
  | f2 {w a b e f} : Is ρ a e → Is ρ b f → Is ρ (.t (.cons (.s w) (.cons a (.cons b .nil)))) (.f2 w e f)
  | ite {c a b g e f} : Is ρ c g → Is ρ a e → Is ρ b f → Is ρ (.t (.cons (.s "if") (.cons c (.cons a (.cons b .nil))))) (.ite g e f)
def EnvAt (H : Hp) : List (Option Ex) → L2.St → Prop
  | some e :: es, some v :: σ => ExAt H e v ∧ EnvAt H es σ
  | none :: es, _ :: σ => EnvAt H es σ
  | some _ :: _, none :: _ => False
  | [], _ => True
  | _ :: _, [] => True
theorem EnvAt.get {H : Hp} : ∀ {es : List (Option Ex)} {σ : L2.St} {k : Nat} {e : Ex} {v : V}, EnvAt H es σ → es[k]? = some (some e) → σ[k]? = some (some v) → ExAt H e v
  | some _ :: _, some _ :: _, 0, _, _, h, p, q => by
    simp at p q
    rw [← p, ← q]; exact h.1
  | some _ :: _, some _ :: _, k + 1, _, _, h, p, q => h.2.get (k := k) (by simpa using p) (by simpa using q)
  | none :: _, _ :: _, 0, _, _, h, p, q => by simp at p
  | none :: es, _ :: σ, k + 1, _, _, h, p, q => EnvAt.get (es := es) (σ := σ) (k := k) h (by simpa using p) (by simpa using q)
  | some _ :: _, none :: _, _, _, _, h, _, _ => h.elim
  | [], _, _, _, _, _, p, _ => by simp at p
  | _ :: _, [], _, _, _, _, _, q => by simp at q
theorem Tm.Is.at {ρ : List (Option Ex)} {H : Hp} {σ : L2.St} (hρ : EnvAt H ρ σ) {T : Tm} {e : Ex} (is : Tm.Is ρ T e) : ∀ {v : V}, (Lit H σ T).1 v → ExAt H e v := by
  induction is with
  | slot h => exact fun {v} l => hρ.get h l
  | num => rintro v ⟨a, _, rfl, h, _, _, rfl, rfl, _, _, rfl, rfl, rfl⟩; exact ⟨a, rfl, h⟩
  | var => rintro v ⟨a, _, rfl, h, _, _, rfl, rfl, _, _, rfl, rfl, rfl⟩; exact ⟨a, rfl, h⟩
  | op _ _ ha hb => rintro v ⟨a, _, rfl, h, _, _, rfl, rfl, _, _, rfl, rfl, u, _, rfl, lu, y, _, rfl, ly, rfl⟩; exact ⟨a, u, y, rfl, h, ha lu, hb ly⟩
  | ea _ _ ha hb => rintro v ⟨a, _, rfl, h, _, _, rfl, rfl, _, _, rfl, rfl, u, _, rfl, lu, y, _, rfl, ly, rfl⟩; exact ⟨a, u, y, rfl, h, ha lu, hb ly⟩
  | le _ _ ha hb => rintro v ⟨a, _, rfl, h, _, _, rfl, rfl, _, _, rfl, rfl, u, _, rfl, lu, y, _, rfl, ly, rfl⟩; exact ⟨a, u, y, rfl, h, ha lu, hb ly⟩
  | call _ ha => rintro v ⟨a, _, rfl, h, _, _, rfl, rfl, _, _, rfl, rfl, u, _, rfl, lu, rfl⟩; exact ⟨a, u, rfl, h, ha lu⟩
  | f1 _ ha => rintro v ⟨a, _, rfl, h, _, _, rfl, rfl, u, _, rfl, lu, rfl⟩; exact ⟨a, u, rfl, h, ha lu⟩
  | f2 _ _ ha hb => rintro v ⟨a, _, rfl, h, _, _, rfl, rfl, u, _, rfl, lu, y, _, rfl, ly, rfl⟩; exact ⟨a, u, y, rfl, h, ha lu, hb ly⟩
  | ite _ _ _ hc ha hb => rintro v ⟨a, _, rfl, h, _, _, rfl, rfl, t, _, rfl, lt, u, _, rfl, lu, y, _, rfl, ly, rfl⟩; exact ⟨a, t, u, y, rfl, h, hc lt, ha lu, hb ly⟩
inductive Tm.IsK : Tm → Kd → Prop
  | num : IsK (.t (.cons (.s "num") .nil)) .num
  | pair {a b k l} : IsK a k → IsK b l → IsK (.t (.cons (.s "pair") (.cons a (.cons b .nil)))) (.pair k l)
  | seq {a k} : IsK a k → IsK (.t (.cons (.s "seq") (.cons a .nil))) (.seq k)
theorem Tm.IsK.at {H : Hp} {σ : L2.St} {T : Tm} {k : Kd} (is : Tm.IsK T k) : ∀ {v : V}, (Lit H σ T).1 v → KdAt H k v := by
  induction is with
  | num => rintro v ⟨a, _, rfl, h, _, _, rfl, rfl, rfl⟩; exact ⟨a, rfl, h⟩
  | pair _ _ ha hb => rintro v ⟨a, _, rfl, h, _, _, rfl, rfl, u, _, rfl, lu, y, _, rfl, ly, rfl⟩; exact ⟨a, u, y, rfl, h, ha lu, hb ly⟩
  | seq _ ha => rintro v ⟨a, _, rfl, h, _, _, rfl, rfl, u, _, rfl, lu, rfl⟩; exact ⟨a, u, rfl, h, ha lu⟩
inductive Tm.IsF (ρ : List (Option Ex)) : Tm → Fn → Prop
  | mk {n p a b c g r e} : IsK a g → IsK b r → Is ρ c e → IsF ρ (.t (.cons (.s "function") (.cons (.s n) (.cons (.s p) (.cons a (.cons b (.cons c .nil))))))) ⟨n, p, g, r, e⟩
theorem Tm.IsF.at {ρ : List (Option Ex)} {H : Hp} {σ : L2.St} (hρ : EnvAt H ρ σ) {T : Tm} {f : Fn} (is : Tm.IsF ρ T f) {v : V} (l : (Lit H σ T).1 v) : FnAt H f v := by
  cases is with
  | mk ha hb hc =>
    obtain ⟨a, _, rfl, h, _, _, rfl, rfl, _, _, rfl, rfl, _, _, rfl, rfl, u, _, rfl, lu, y, _, rfl, ly, b, _, rfl, lb, rfl⟩ := l
    exact ⟨a, u, y, b, rfl, h, ha.at lu, hb.at ly, hc.at hρ lb⟩
section
variable {H : Hp} {σ : L2.St} {T : Tm} {v : V}
theorem LitE.ex {e : Ex} (l : LitE H σ T v) (ρ : List (Option Ex)) (hρ : EnvAt H ρ σ) (is : Tm.Is ρ T e) : ExAt H e v := is.at hρ l.h
theorem LitE.fn {f : Fn} (l : LitE H σ T v) (ρ : List (Option Ex)) (hρ : EnvAt H ρ σ) (is : Tm.IsF ρ T f) : FnAt H f v := is.at hρ l.h
theorem LitE.nEx {e : Ex} (l : LitE H σ T v) (τ : List (Option V)) (hτ : ScAt τ σ) (ρ : List (Option Ex)) (hρ : EnvAt H ρ σ) (is : Tm.Is ρ (T.norm τ) e) : ExAt H e v := is.at hρ ((Lit.norm hτ T).1 v l.h)
theorem LitE.nFn {f : Fn} (l : LitE H σ T v) (τ : List (Option V)) (hτ : ScAt τ σ) (ρ : List (Option Ex)) (hρ : EnvAt H ρ σ) (is : Tm.IsF ρ (T.norm τ) f) : FnAt H f v := is.at hρ ((Lit.norm hτ T).1 v l.h)
theorem LitE.kd {k : Kd} (l : LitE H σ T v) (is : Tm.IsK T k) : KdAt H k v := is.at l.h
end
end K2

namespace K2
open PySem PySem.Spec PyProof.Rows L2
/-! ### the functions that stand in every program -/
def exDown : Ex := .ite (.op "<" (.var "n") (.num 1)) (.num 0) (.op "+" (.var "n") (.call "down" (.op "-" (.var "n") (.num 1))))
def fnDown : Fn := ⟨"down", "n", .num, .num, exDown⟩
def exTurn (other : Str) (last : Int) : Ex := .ite (.op "<" (.var "n") (.num 1)) (.num last) (.call other (.op "-" (.var "n") (.num 1)))
def fnEven : Fn := ⟨"even", "n", .num, .num, exTurn "odd" 1⟩
def fnOdd : Fn := ⟨"odd", "n", .num, .num, exTurn "even" 0⟩
def exPart (x y : Str) : Ex := .call "sort" (.f2 "keep" (.var "v") (.bnd true "x" (.var "v") (.op "<" (.var x) (.var y))))
def exSame : Ex := .f2 "keep" (.var "v") (.bnd true "x" (.var "v") (.op "=" (.var "x") (.var "p")))
def exSort : Ex := .ite (.op "<" (.f1 "len" (.var "v")) (.num 1)) (.var "v") (.bnd false "p" (.f2 "at" (.var "v") (.num 0)) (.f2 "append" (exPart "x" "p") (.f2 "append" exSame (exPart "p" "x"))))
def fnSort : Fn := ⟨"sort", "v", .seq .num, .seq .num, exSort⟩
def base4 : List Fn := [fnDown, fnSort, fnEven, fnOdd]
section
variable {P : Program} {w : World} {K : PySem.W.Frag} {mg : Str → Option Value} {base : Heap} {a : GAd}
def spDown : Sp := fun vs H Q _ => vs = [] ∧ ∀ H' v, Same H H' → FnAt H' fnDown v → Q v H'
theorem ok_law_down (T : GTxt K mg a) : FnOk P w K mg base CX0 1 a.law_down.1 a.law_down.2 [] spDown := by
  refine T.law_down.F.ok sc_law_down (fun vs H Q E h => ?_) (fun cdv A outer s H vs Q E hr h => ?_)
  · obtain ⟨rfl, _⟩ := h
    rfl
  obtain ⟨rfl, q⟩ := h
  have nd := sc_law_down.nd
  refine ⟨_, (pss_cons (ps_set (i := 0) nd rfl (Or.inl rfl) (pe_tx (.t (.cons (.s "var") (.cons (.s "n") (.nil)))) (by rfl) (pe_tup (pa_cons pe_str (pa_cons pe_str pa_nil)))))
  (pss_cons (ps_set (i := 1) nd rfl (Or.inl rfl) (pe_tx (.t (.cons (.s "if") (.cons (.t (.cons (.s "op") (.cons (.s "<") (.cons (.v 0) (.cons (.t (.cons (.s "num") (.cons (.i 1) (.nil)))) (.nil)))))) (.cons (.t (.cons (.s "num") (.cons (.i 0) (.nil)))) (.cons (.t (.cons (.s "op") (.cons (.s "+") (.cons (.v 0) (.cons (.t (.cons (.s "call") (.cons (.s "down") (.cons (.t (.cons (.s "op") (.cons (.s "-") (.cons (.v 0) (.cons (.t (.cons (.s "num") (.cons (.i 1) (.nil)))) (.nil)))))) (.nil))))) (.nil)))))) (.nil)))))) (by rfl) (pe_tup (pa_cons pe_str (pa_cons (pe_tup (pa_cons pe_str (pa_cons pe_str (pa_cons (pv 0) (pa_cons (pe_tup (pa_cons pe_str (pa_cons pe_int pa_nil))) pa_nil))))) (pa_cons (pe_tup (pa_cons pe_str (pa_cons pe_int pa_nil))) (pa_cons (pe_tup (pa_cons pe_str (pa_cons pe_str (pa_cons (pv 0) (pa_cons (pe_tup (pa_cons pe_str (pa_cons pe_str (pa_cons (pe_tup (pa_cons pe_str (pa_cons pe_str (pa_cons (pv 0) (pa_cons (pe_tup (pa_cons pe_str (pa_cons pe_int pa_nil))) pa_nil))))) pa_nil)))) pa_nil))))) pa_nil)))))))
  (pss_one (ps_ret (pe_tx (.t (.cons (.s "function") (.cons (.s "down") (.cons (.s "n") (.cons (.t (.cons (.s "num") (.nil))) (.cons (.t (.cons (.s "num") (.nil))) (.cons (.v 1) (.nil)))))))) (by rfl) (pe_tup (pa_cons pe_str (pa_cons pe_str (pa_cons pe_str (pa_cons (pe_tup (pa_cons pe_str pa_nil)) (pa_cons (pe_tup (pa_cons pe_str pa_nil)) (pa_cons (pv 1) pa_nil)))))))))))), ?_⟩
  refine ⟨rfl, fun H1 v1 s1 l1 => ?_⟩
  have a1 : ExAt H1 (.var "n") v1 := l1.ex [] trivial (by repeat' (first | rfl | constructor))
  refine ⟨rfl, fun H2 v2 s2 l2 => ?_⟩
  have a2 : ExAt H2 exDown v2 := l2.ex [some (.var "n")] ⟨a1.kt (Kt.of s2), trivial⟩ (by repeat' (first | rfl | constructor))
  refine ⟨rfl, fun H3 v3 s3 l3 => ?_⟩
  exact q _ _ ((s1.trans s2).trans s3) (l3.fn [none, some exDown] ⟨a2.kt (Kt.of s3), trivial⟩ (by repeat' (first | rfl | constructor)))
def spSorted : Sp := fun vs H Q _ => vs = [] ∧ ∀ H' v, Same H H' → FnAt H' fnSort v → Q v H'
theorem ok_law_sorted (T : GTxt K mg a) : FnOk P w K mg base CX0 1 a.law_sorted.1 a.law_sorted.2 [] spSorted := by
  refine T.law_sorted.F.ok sc_law_sorted (fun vs H Q E h => ?_) (fun cdv A outer s H vs Q E hr h => ?_)
  · obtain ⟨rfl, _⟩ := h
    rfl
  obtain ⟨rfl, q⟩ := h
  have nd := sc_law_sorted.nd
  refine ⟨_, (pss_cons (ps_set (i := 0) nd rfl (Or.inl rfl) (pe_tx (.t (.cons (.s "var") (.cons (.s "v") (.nil)))) (by rfl) (pe_tup (pa_cons pe_str (pa_cons pe_str pa_nil)))))
  (pss_cons (ps_set (i := 1) nd rfl (Or.inl rfl) (pe_tx (.t (.cons (.s "at") (.cons (.v 0) (.cons (.t (.cons (.s "num") (.cons (.i 0) (.nil)))) (.nil))))) (by rfl) (pe_tup (pa_cons pe_str (pa_cons (pv 0) (pa_cons (pe_tup (pa_cons pe_str (pa_cons pe_int pa_nil))) pa_nil))))))
  (pss_cons (ps_set (i := 2) nd rfl (Or.inl rfl) (pe_lst pa_nil))
  (pss_cons (ps_for PassesOwn.never rfl (pi_list (pe_lst (pa_cons (pe_tx (.t (.cons (.s "op") (.cons (.s "<") (.cons (.t (.cons (.s "var") (.cons (.s "x") (.nil)))) (.cons (.t (.cons (.s "var") (.cons (.s "p") (.nil)))) (.nil)))))) (by rfl) (pe_tup (pa_cons pe_str (pa_cons pe_str (pa_cons (pe_tup (pa_cons pe_str (pa_cons pe_str pa_nil))) (pa_cons (pe_tup (pa_cons pe_str (pa_cons pe_str pa_nil))) pa_nil)))))) (pa_cons (pe_tx (.t (.cons (.s "op") (.cons (.s "<") (.cons (.t (.cons (.s "var") (.cons (.s "p") (.nil)))) (.cons (.t (.cons (.s "var") (.cons (.s "x") (.nil)))) (.nil)))))) (by rfl) (pe_tup (pa_cons pe_str (pa_cons pe_str (pa_cons (pe_tup (pa_cons pe_str (pa_cons pe_str pa_nil))) (pa_cons (pe_tup (pa_cons pe_str (pa_cons pe_str pa_nil))) pa_nil)))))) pa_nil)))) (pg_name (i := 3) nd rfl (Or.inl rfl)) (pss_one (ps_expr (pe_bm PySem.F.plainAttrs_list PySem.F.slot_list_append PySem.F.type_list_append mt_append (pv 2) (pa_cons (pe_tx (.t (.cons (.s "call") (.cons (.s "sort") (.cons (.t (.cons (.s "keep") (.cons (.v 0) (.cons (.t (.cons (.s "each") (.cons (.s "x") (.cons (.v 0) (.cons (.v 3) (.nil)))))) (.nil))))) (.nil))))) (by rfl) (pe_tup (pa_cons pe_str (pa_cons pe_str (pa_cons (pe_tup (pa_cons pe_str (pa_cons (pv 0) (pa_cons (pe_tup (pa_cons pe_str (pa_cons pe_str (pa_cons (pv 0) (pa_cons (pv 3) pa_nil))))) pa_nil)))) pa_nil))))) pa_nil)))))
  (pss_cons (ps_set (i := 4) nd rfl (Or.inl rfl) (pe_tx (.t (.cons (.s "keep") (.cons (.v 0) (.cons (.t (.cons (.s "each") (.cons (.s "x") (.cons (.v 0) (.cons (.t (.cons (.s "op") (.cons (.s "=") (.cons (.t (.cons (.s "var") (.cons (.s "x") (.nil)))) (.cons (.t (.cons (.s "var") (.cons (.s "p") (.nil)))) (.nil)))))) (.nil)))))) (.nil))))) (by rfl) (pe_tup (pa_cons pe_str (pa_cons (pv 0) (pa_cons (pe_tup (pa_cons pe_str (pa_cons pe_str (pa_cons (pv 0) (pa_cons (pe_tup (pa_cons pe_str (pa_cons pe_str (pa_cons (pe_tup (pa_cons pe_str (pa_cons pe_str pa_nil))) (pa_cons (pe_tup (pa_cons pe_str (pa_cons pe_str pa_nil))) pa_nil))))) pa_nil))))) pa_nil))))))
  (pss_cons (ps_set (i := 5) nd rfl (Or.inl rfl) (pe_tup (pa_cons pe_str (pa_cons pe_str (pa_cons (pv 1) (pa_cons (pe_tup (pa_cons pe_str (pa_cons (pe_ix ix_list (pv 2) pe_int (fun _ _ => rfl)) (pa_cons (pe_tup (pa_cons pe_str (pa_cons (pv 4) (pa_cons (pe_ix ix_list (pv 2) pe_int (fun _ _ => rfl)) pa_nil)))) pa_nil)))) pa_nil))))))
  (pss_cons (ps_set (i := 6) nd rfl (Or.inl rfl) (pe_tx (.t (.cons (.s "if") (.cons (.t (.cons (.s "op") (.cons (.s "<") (.cons (.t (.cons (.s "len") (.cons (.v 0) (.nil)))) (.cons (.t (.cons (.s "num") (.cons (.i 1) (.nil)))) (.nil)))))) (.cons (.v 0) (.cons (.v 5) (.nil)))))) (by rfl) (pe_tup (pa_cons pe_str (pa_cons (pe_tup (pa_cons pe_str (pa_cons pe_str (pa_cons (pe_tup (pa_cons pe_str (pa_cons (pv 0) pa_nil))) (pa_cons (pe_tup (pa_cons pe_str (pa_cons pe_int pa_nil))) pa_nil))))) (pa_cons (pv 0) (pa_cons (pv 5) pa_nil)))))))
  (pss_one (ps_ret (pe_tx (.t (.cons (.s "function") (.cons (.s "sort") (.cons (.s "v") (.cons (.t (.cons (.s "seq") (.cons (.t (.cons (.s "num") (.nil))) (.nil)))) (.cons (.t (.cons (.s "seq") (.cons (.t (.cons (.s "num") (.nil))) (.nil)))) (.cons (.v 6) (.nil)))))))) (by rfl) (pe_tup (pa_cons pe_str (pa_cons pe_str (pa_cons pe_str (pa_cons (pe_tup (pa_cons pe_str (pa_cons (pe_tup (pa_cons pe_str pa_nil)) pa_nil))) (pa_cons (pe_tup (pa_cons pe_str (pa_cons (pe_tup (pa_cons pe_str pa_nil)) pa_nil))) (pa_cons (pv 6) pa_nil))))))))))))))))), ?_⟩
  refine ⟨rfl, fun H1 v1 s1 l1 => ?_⟩
  have a1 : ExAt H1 (.var "v") v1 := l1.ex [] trivial (by repeat' (first | rfl | constructor))
  refine ⟨rfl, fun H2 v2 s2 l2 => ?_⟩
  have a2 : ExAt H2 (.f2 "at" (.var "v") (.num 0)) v2 := l2.ex [some (.var "v")] ⟨a1.kt (Kt.of s2), trivial⟩ (by repeat' (first | rfl | constructor))
  refine ⟨(by show 0 ≤ sizeLine; decide), fun r hr0 => ?_⟩
  have s3 := same_new hr0 (.lst [])
  refine ⟨rfl, fun H4 w1 s4 l4 => ⟨rfl, fun H5 w2 s5 l5 => ⟨(by show 2 ≤ sizeLine; decide), fun l hl => ?_⟩⟩⟩
  have b1 : ExAt H4 (.op "<" (.var "x") (.var "p")) w1 := l4.ex [] trivial (by repeat' (first | rfl | constructor))
  have b2 : ExAt H5 (.op "<" (.var "p") (.var "x")) w2 := l5.ex [] trivial (by repeat' (first | rfl | constructor))
  have s6 := same_new hl (.lst [w1, w2])
  have s36 := ((s4.trans s5).trans s6)
  have rl : l ≠ r := (ne_of_none ((s4.trans s5) _ _ (upd_same (a := r))) hl).symm
  have b1 := b1.kt (Kt.of (s5.trans s6))
  have b2 := b2.kt (Kt.of s6)
  have a1 := a1.kt (Kt.of (s2.trans (s3.trans s36)))
  have a2 := a2.kt (Kt.of (s3.trans s36))
  have r6 := s36 _ _ (upd_same (a := r))
  have s06 := (s1.trans s2).trans (s3.trans s36)
  refine ⟨l, rfl, ⟨_, SqL.of upd_same⟩, for_list (K := K) (a := l) (xs := [w1, w2]) (fun i σ H' => ∃ (ps : List V) (s3 : Option V), σ = [some v1, some v2, some (.ref r), s3, none, none, none] ∧ H' r = some (.lst ps) ∧ (∀ b o, b ≠ r → upd H5 l (.lst [w1, w2]) b = some o → H' b = some o) ∧
    (i = 0 → ps = []) ∧ (i = 1 → ∃ u1, ps = [u1] ∧ ExAt H' (exPart "x" "p") u1) ∧ (i = 2 → ∃ u1 u2, ps = [u1, u2] ∧ ExAt H' (exPart "x" "p") u1 ∧ ExAt H' (exPart "p" "x") u2)) ⟨[], none, rfl, r6, fun _ _ _ e => e, fun _ => rfl, fun z => (nomatch z), fun z => (nomatch z)⟩ (fun i σ H' _ h => ?_) ?_ ?_⟩
  · obtain ⟨_, _, _, _, k, _⟩ := h
    exact SqL.of (k _ _ rl upd_same)
  · rintro i y σ H' hi ⟨ps, s3', rfl, hr', k, h0, h1, h2⟩
    have kt : Kt (upd H5 l (.lst [w1, w2])) H' := fun b xs e => k b _ (fun z => by rw [z, r6] at e; cases e) e
    refine ⟨_, rfl, .inl ⟨rfl, _, SqL.of hr'⟩, rfl, fun H7 u s7 l7 => ?_⟩
    have k7 : ∀ b o, b ≠ r → upd H5 l (.lst [w1, w2]) b = some o → H7 b = some o := fun b o n e => s7 _ _ (k b o n e)
    have r7 := s7 _ _ hr'
    match i, hi with
    | 0, hi =>
      obtain rfl : w1 = y := by simpa using hi
      have au : ExAt H7 (exPart "x" "p") u := l7.ex [some (.var "v"), none, none, some (.op "<" (.var "x") (.var "p"))] ⟨(a1.kt kt).kt (Kt.of s7), (b1.kt kt).kt (Kt.of s7), trivial⟩ (by repeat' (first | rfl | constructor))
      have eps := h0 rfl
      refine ⟨r, _, _, rfl, rfl, r7, small1000 (by rw [eps]; decide), _, _, rfl, upd_same, fun b o n e => by rw [upd_ne n]; exact k7 b o n e, fun z => (nomatch z), fun _ => ⟨u, by rw [eps]; rfl, au.kt fun b xs e => ?_⟩, fun z => (nomatch z)⟩
      rw [upd_ne (fun z => by rw [z, r7] at e; cases e)]; exact e
    | 1, hi =>
      obtain rfl : w2 = y := by simpa using hi
      have au : ExAt H7 (exPart "p" "x") u := l7.ex [some (.var "v"), none, none, some (.op "<" (.var "p") (.var "x"))] ⟨(a1.kt kt).kt (Kt.of s7), (b2.kt kt).kt (Kt.of s7), trivial⟩ (by repeat' (first | rfl | constructor))
      obtain ⟨u1, eps, au1⟩ := h1 rfl
      have kt8 : Kt H7 (upd H7 r (.lst (ps ++ [u]))) := fun b xs e => by rw [upd_ne (fun z => by rw [z, r7] at e; cases e)]; exact e
      exact ⟨r, _, _, rfl, rfl, r7, small1000 (by rw [eps]; show 1 ≤ 1000; decide), _, _, rfl, upd_same, fun b o n e => by rw [upd_ne n]; exact k7 b o n e, fun z => (nomatch z), fun z => (nomatch z), fun _ => ⟨u1, u, by rw [eps]; rfl, (au1.kt (Kt.of s7)).kt kt8, au.kt kt8⟩⟩
    | k + 2, hi => simp at hi
  · rintro σ H7 ⟨ps, s3', rfl, hr', k, _, _, h2⟩
    obtain ⟨u1, u2, rfl, au1, au2⟩ := h2 rfl
    have kt : Kt (upd H5 l (.lst [w1, w2])) H7 := fun b xs e => k b _ (fun z => by rw [z, r6] at e; cases e) e
    have a1 := a1.kt kt
    have a2 := a2.kt kt
    refine ⟨rfl, fun H8 v4 s8 l8 => ?_⟩
    have a4 : ExAt H8 exSame v4 := l8.ex [some (.var "v")] ⟨a1.kt (Kt.of s8), trivial⟩ (by repeat' (first | rfl | constructor))
    have r8 := s8 _ _ hr'
    refine ⟨_, rfl, _, rfl, r, _, _, _, rfl, rfl, SqL.of r8, atI_nat (j := 0) rfl, ?_⟩
    refine ⟨_, rfl, _, rfl, r, _, _, _, rfl, rfl, SqL.of r8, atI_nat (j := 1) rfl, ?_⟩
    refine ⟨(by show 3 ≤ sizeLine; decide), fun p9 hp9 => ⟨(by show 3 ≤ sizeLine; decide), fun pA hpA => ⟨(by show 4 ≤ sizeLine; decide), fun pB hpB => ?_⟩⟩⟩
    have kA := Kt.new (o := .tup [.str "append", .ref p9 , v4]) hpA
    have t9 := mk2 (w := "append") hp9 a4 (au2.kt (Kt.of s8))
    have tA := mk2 (w := "append") hpA ((au1.kt (Kt.of s8)).kt (Kt.new hp9)) t9
    have tB := mkL (x := "p") hpB (((a2.kt (Kt.of s8)).kt (Kt.new hp9)).kt (Kt.new hpA)) tA
    have kB : Kt H7 (upd (upd (upd H8 p9 (.tup [.str "append", v4, u2])) pA (.tup [.str "append", u1, .ref p9])) pB (.tup [.str "let", .str "p", v2, .ref pA])) := (Kt.of s8).trans ((Kt.new hp9).trans ((Kt.new hpA).trans (Kt.new hpB)))
    refine ⟨rfl, fun HC vC sC lC => ?_⟩
    have aC : ExAt HC exSort vC := lC.ex [some (.var "v"), none, none, none, none, some _] ⟨(a1.kt kB).kt (Kt.of sC), tB.kt (Kt.of sC), trivial⟩ (by repeat' (first | rfl | constructor))
    refine ⟨rfl, fun HD vD sD lD => ?_⟩
    refine q _ _ (fun b o e => ?_) (lD.fn [none, none, none, none, none, none, some exSort] ⟨aC.kt (Kt.of sD), trivial⟩ (by repeat' (first | rfl | constructor)))
    have b9 : ∀ b o, H8 b = some o → HD b = some o := fun b o e => sD _ _ (sC _ _ (same_new hpB _ _ _ (same_new hpA _ _ _ (same_new hp9 _ _ _ e))))
    refine b9 b o (s8 _ _ (k b o (fun z => ?_) (s06 _ _ e)))
    have eN := (s1.trans s2) _ _ e
    rw [z, hr0] at eN
    cases eN
end
end K2

namespace K2
open PySem PySem.Spec PyProof.Rows L2
section
variable {P : Program} {w : World} {K : PySem.W.Frag} {mg : Str → Option Value} {base : Heap} {a : GAd}
def spTurns : Sp := fun vs H Q _ => vs = [] ∧ ∀ (H' : Hp) (p : Addr) (us : List V), Same H H' → H p = none → H' p = some (.lst us) → FnsAt H' [fnEven, fnOdd] us → Q (.ref p) H'
theorem ok_law_turns (T : GTxt K mg a) : FnOk P w K mg base CX0 1 a.law_turns.1 a.law_turns.2 [] spTurns := by
  refine T.law_turns.F.ok sc_law_turns (fun vs H Q E h => ?_) (fun cdv A outer s H vs Q E hr h => ?_)
  · obtain ⟨rfl, _⟩ := h
    rfl
  obtain ⟨rfl, q⟩ := h
  have nd := sc_law_turns.nd
  refine ⟨_, (pss_cons (ps_set (i := 0) nd rfl (Or.inl rfl) (pe_tx (.t (.cons (.s "var") (.cons (.s "n") (.nil)))) (by rfl) (pe_tup (pa_cons pe_str (pa_cons pe_str pa_nil)))))
  (pss_cons (ps_set (i := 1) nd rfl (Or.inl rfl) (pe_lst pa_nil))
  (pss_cons (ps_for PassesOwn.never rfl (pi_list (pe_lst (pa_cons (pe_tx (.t (.cons (.s "even") (.cons (.s "odd") (.cons (.i 1) (.nil))))) (by rfl) (pe_tup (pa_cons pe_str (pa_cons pe_str (pa_cons pe_int pa_nil))))) (pa_cons (pe_tx (.t (.cons (.s "odd") (.cons (.s "even") (.cons (.i 0) (.nil))))) (by rfl) (pe_tup (pa_cons pe_str (pa_cons pe_str (pa_cons pe_int pa_nil))))) pa_nil)))) (pg_tup rfl (pgs_cons (pg_name (i := 2) nd rfl (Or.inl rfl)) (pgs_cons (pg_name (i := 3) nd rfl (Or.inl rfl)) (pgs_cons (pg_name (i := 4) nd rfl (Or.inl rfl)) pgs_nil)))) (pss_cons (ps_set (i := 5) nd rfl (Or.inl rfl) (pe_tx (.t (.cons (.s "if") (.cons (.t (.cons (.s "op") (.cons (.s "<") (.cons (.v 0) (.cons (.t (.cons (.s "num") (.cons (.i 1) (.nil)))) (.nil)))))) (.cons (.t (.cons (.s "num") (.cons (.v 4) (.nil)))) (.cons (.t (.cons (.s "call") (.cons (.v 3) (.cons (.t (.cons (.s "op") (.cons (.s "-") (.cons (.v 0) (.cons (.t (.cons (.s "num") (.cons (.i 1) (.nil)))) (.nil)))))) (.nil))))) (.nil)))))) (by rfl) (pe_tup (pa_cons pe_str (pa_cons (pe_tup (pa_cons pe_str (pa_cons pe_str (pa_cons (pv 0) (pa_cons (pe_tup (pa_cons pe_str (pa_cons pe_int pa_nil))) pa_nil))))) (pa_cons (pe_tup (pa_cons pe_str (pa_cons (pv 4) pa_nil))) (pa_cons (pe_tup (pa_cons pe_str (pa_cons (pv 3) (pa_cons (pe_tup (pa_cons pe_str (pa_cons pe_str (pa_cons (pv 0) (pa_cons (pe_tup (pa_cons pe_str (pa_cons pe_int pa_nil))) pa_nil))))) pa_nil)))) pa_nil)))))))
  (pss_one (ps_expr (pe_bm PySem.F.plainAttrs_list PySem.F.slot_list_append PySem.F.type_list_append mt_append (pv 1) (pa_cons (pe_tx (.t (.cons (.s "function") (.cons (.v 2) (.cons (.s "n") (.cons (.t (.cons (.s "num") (.nil))) (.cons (.t (.cons (.s "num") (.nil))) (.cons (.v 5) (.nil)))))))) (by rfl) (pe_tup (pa_cons pe_str (pa_cons (pv 2) (pa_cons pe_str (pa_cons (pe_tup (pa_cons pe_str pa_nil)) (pa_cons (pe_tup (pa_cons pe_str pa_nil)) (pa_cons (pv 5) pa_nil)))))))) pa_nil))))))
  (pss_one (ps_ret (pv 1)))))), ?_⟩
  refine ⟨rfl, fun H1 v1 s1 l1 => ?_⟩
  have a1 : ExAt H1 (.var "n") v1 := l1.ex [] trivial (by repeat' (first | rfl | constructor))
  refine ⟨(by show 0 ≤ sizeLine; decide), fun r hr0 => ?_⟩
  have s3 := same_new hr0 (.lst [])
  refine ⟨rfl, fun H4 w1 s4 l4 => ⟨rfl, fun H5 w2 s5 l5 => ⟨(by show 2 ≤ sizeLine; decide), fun l hl => ?_⟩⟩⟩
  have s6 := same_new hl (.lst [w1, w2])
  have s36 := ((s4.trans s5).trans s6)
  have rl : l ≠ r := (ne_of_none ((s4.trans s5) _ _ (upd_same (a := r))) hl).symm
  have a1 := a1.kt (Kt.of (s3.trans s36))
  have r6 := s36 _ _ (upd_same (a := r))
  have s06 := s1.trans (s3.trans s36)
  have turn : ∀ (i : Nat) (y : V), [w1, w2][i]? = some y → ∃ (b : Addr) (nm ot : Str) (la : Int), y = .ref b ∧ upd H5 l (.lst [w1, w2]) b = some (.tup [.str nm, .str ot, .int la]) ∧ [fnEven, fnOdd][i]? = some ⟨nm, "n", .num, .num, exTurn ot la⟩ := fun i y hi => by
    match i, hi with
    | 0, hi =>
      obtain rfl : w1 = y := by simpa using hi
      obtain ⟨⟨b, _, rfl, h, _, _, rfl, rfl, _, _, rfl, rfl, _, _, rfl, rfl, rfl⟩⟩ := l4
      exact ⟨b, _, _, _, rfl, (s5.trans s6) _ _ h, rfl⟩
    | 1, hi =>
      obtain rfl : w2 = y := by simpa using hi
      obtain ⟨⟨b, _, rfl, h, _, _, rfl, rfl, _, _, rfl, rfl, _, _, rfl, rfl, rfl⟩⟩ := l5
      exact ⟨b, _, _, _, rfl, s6 _ _ h, rfl⟩
    | k + 2, hi => simp at hi
  refine ⟨l, rfl, ⟨_, SqL.of upd_same⟩, for_list (K := K) (a := l) (xs := [w1, w2]) (fun i σ H' => ∃ (ps : List V) (x2 x3 x4 x5 : Option V), σ = [some v1, some (.ref r), x2, x3, x4, x5] ∧ H' r = some (.lst ps) ∧ (∀ b o, b ≠ r → upd H5 l (.lst [w1, w2]) b = some o → H' b = some o) ∧ FnsAt H' ([fnEven, fnOdd].take i) ps) ⟨[], none, none, none, none, rfl, r6, fun _ _ _ e => e, trivial⟩ (fun i σ H' _ h => ?_) ?_ ?_⟩
  · obtain ⟨_, _, _, _, _, _, _, k, _⟩ := h
    exact SqL.of (k _ _ rl upd_same)
  · rintro i y σ H' hi ⟨ps, x2, x3, x4, x5, rfl, hr', k, hps⟩
    have kt : Kt (upd H5 l (.lst [w1, w2])) H' := fun b xs e => k b _ (fun z => by rw [z, r6] at e; cases e) e
    obtain ⟨b, nm, ot, la, rfl, hb, hf⟩ := turn i y hi
    refine ⟨b, _, rfl, .inl (.inl (kt _ _ hb)), rfl, _, _, rfl, _, _, rfl, _, _, rfl, rfl, ?_⟩
    refine ⟨rfl, fun H7 u s7 l7 => ?_⟩
    have a7 : ExAt H7 (exTurn ot la) u := l7.nEx [none, none, none, some (.str ot), some (.int la)] ⟨rfl, rfl, trivial⟩ [some (.var "n")] ⟨(a1.kt kt).kt (Kt.of s7), trivial⟩ (by repeat' (first | rfl | constructor))
    have r7 := s7 _ _ hr'
    refine ⟨_, rfl, .inl ⟨rfl, _, SqL.of r7⟩, rfl, fun H8 u8 s8 l8 => ?_⟩
    have a8 : FnAt H8 ⟨nm, "n", .num, .num, exTurn ot la⟩ u8 := l8.nFn [none, none, some (.str nm)] ⟨rfl, trivial⟩ [none, none, none, none, none, some (exTurn ot la)] ⟨a7.kt (Kt.of s8), trivial⟩ (by repeat' (first | rfl | constructor))
    have r8 := s8 _ _ r7
    have kt9 : Kt H8 (upd H8 r (.lst (ps ++ [u8]))) := fun b xs e => by rw [upd_ne (fun z => by rw [z, r8] at e; cases e)]; exact e
    have i2 : i < 2 := by
      have := (List.getElem?_eq_some_iff.mp hi).1
      exact this
    have pl := hps.len
    rw [List.length_take] at pl
    refine ⟨r, _, _, rfl, rfl, r8, small1000 (by rw [pl]; omega), _, _, _, _, _, rfl, upd_same, fun b o n e => by rw [upd_ne n]; exact s8 _ _ (s7 _ _ (k b o n e)), ?_⟩
    rw [List.take_succ, hf]
    exact FnsAt.snoc (a8.kt kt9) ((hps.kt (Kt.of (s7.trans s8))).kt kt9)
  · rintro σ H7 ⟨ps, x2, x3, x4, x5, rfl, hr', k, hps⟩
    have h0 : H r = none := by
      cases e : H r with
      | none => rfl
      | some o =>
        have := s1 _ _ e
        rw [hr0] at this
        cases this
    refine ⟨_, rfl, q _ r ps (fun b o e => k b o (fun z => ?_) (s06 _ _ e)) h0 hr' hps⟩
    rw [z, h0] at e
    cases e
end
end K2

namespace K2
open PySem PySem.Spec PyProof.Rows L2
theorem ExQ.mono {H : Hp} {st c : Addr} {fs : List Fn} {G : Gm} {k : Kd} {N N' D D' : Nat} {Q : VK} (hN : N ≤ N') (hD : D ≤ D') (q : ExQ H st c fs G k N' D' Q) : ExQ H st c fs G k N D Q := fun H' e v g a t s d => q H' e v g a t (Nat.le_trans s hN) (Nat.le_trans d hD)
theorem spExpr_mono {okk : Kd → Prop} {M d N N' D D' : Nat} (hN : N ≤ N') (hD : D ≤ D') {vs : List V} {H : Hp} {Q : VK} {E : XK} (h : spExpr okk M d N' D' vs H Q E) : spExpr okk M d N D vs H Q E := by
  obtain ⟨st, c, p, n, kv, k, fs, G, L, z, e, hz, W, hk, ho, hM, hL, q⟩ := h
  exact ⟨st, c, p, n, kv, k, fs, G, L, z, e, hz, W, hk, ho, hM, hL, q.mono hN hD⟩
theorem spNum_mono {M d N N' D D' : Nat} (hN : N ≤ N') (hD : D ≤ D') {vs : List V} {H : Hp} {Q : VK} {E : XK} (h : spNum M d N' D' vs H Q E) : spNum M d N D vs H Q E := by
  obtain ⟨st, c, p, n, fs, G, L, z, e, hz, W, hM, hL, q⟩ := h
  exact ⟨st, c, p, n, fs, G, L, z, e, hz, W, hM, hL, q.mono hN hD⟩
theorem spSeq_mono {okS : Prop} {M d N N' D D' : Nat} (hN : N ≤ N') (hD : D ≤ D') {vs : List V} {H : Hp} {Q : VK} {E : XK} (h : spSeq okS M d N' D' vs H Q E) : spSeq okS M d N D vs H Q E := by
  obtain ⟨st, c, p, n, kv, k, fs, G, L, z, e, hz, W, hk, ho, hM, hL, q⟩ := h
  exact ⟨st, c, p, n, kv, k, fs, G, L, z, e, hz, W, hk, ho, hM, hL, q.mono hN hD⟩
def NB (M : Nat) : Nat → Nat
  | 0 => LB M + 10
  | d + 1 => 3 * NB M d + (3 * (LB M + 10) + 10) + 10
def DB (M d : Nat) : Nat := M + 3 + 5 * d
theorem NB_mono {M : Nat} : ∀ {d e : Nat}, d ≤ e → NB M d ≤ NB M e := fun {d e} h => by
  induction e with
  | zero => obtain rfl : d = 0 := by omega
            exact Nat.le_refl _
  | succ e ih =>
    by_cases c : d = e + 1
    · rw [c]; exact Nat.le_refl _
    · have := ih (by omega)
      show _ ≤ 3 * NB M e + (3 * (LB M + 10) + 10) + 10
      omega
theorem DB_mono {M d e : Nat} (h : d ≤ e) : DB M d ≤ DB M e := by unfold DB; omega
section
variable {P : Program} {w : World} {K : PySem.W.Frag} {mg : Str → Option Value} {base : Heap} {a : GAd}
theorem law_E0 (T : GTxt K mg a) {M : Nat} (hM2 : 2 ≤ M) (hM20 : M ≤ 20) : FnOk P w K mg base CX0 25 a.law_expr.1 a.law_expr.2 ["state", "program", "names", "kind", "deep"] (spExpr (fun _ => True) M 0 (LB M + 10) (M + 3)) :=
  expr_step (d := 0) (N0 := 0) (D0 := 0) (okS := True) (lv := 24) T (by decide) hM20 (by omega) (less fun e he => absurd he (by omega)) (down fun e he => absurd he (by omega)) (down fun e he => absurd he (by omega)) (fun _ _ => trivial) (by omega) (by omega) (by omega) (by omega)
theorem law_EN1 (T : GTxt K mg a) {M : Nat} (hM3 : 3 ≤ M) (hM20 : M ≤ 20) : FnOk P w K mg base CX0 27 a.law_expr.1 a.law_expr.2 ["state", "program", "names", "kind", "deep"] (spExpr (fun k => k = .num) M 1 (3 * (LB M + 10) + 10) (M + 5)) := by
  have E0 := law_E0 (P := P) (w := w) (base := base) T (M := M) (by omega) hM20
  refine expr_step (d := 1) (N0 := LB M + 10) (D0 := M + 3) (okS := False) (lv := 26) T (by decide) hM20 (by omega) (less fun e he => ?_) (down fun e he => ?_) (down fun e he => ?_) (fun _ h => (nomatch h)) (by omega) (by omega) (by omega) (by omega)
  · obtain rfl : e = 0 := by omega
    exact E0.mono (by decide)
  · obtain rfl : e = 0 := by omega
    exact (ok_law_num T (by decide) E0).imp fun vs H Q E => spNum_mono (by omega) (by omega)
  · exact nope.imp fun vs H Q E h => by
      obtain ⟨_, _, _, _, _, _, _, _, _, _, _, _, _, _, h, _⟩ := h
      exact h
theorem ok_law_expr (T : GTxt K mg a) {M : Nat} (hM20 : M ≤ 20) (d : Nat) (hd : d + 3 ≤ M) : FnOk P w K mg base CX0 (30 + 4 * d) a.law_expr.1 a.law_expr.2 ["state", "program", "names", "kind", "deep"] (spExpr (fun _ => True) M d (NB M d) (DB M d)) := by
  induction d using Nat.strongRecOn with
  | _ d ih =>
  match d, ih, hd with
  | 0, _, _ => exact (law_E0 T (by omega) hM20).mono (by decide)
  | d + 1, ih, hd =>
    have Ed := ih d (by omega) (by omega)
    have EN := law_EN1 (P := P) (w := w) (base := base) T (M := M) (by omega) hM20
    have step : FnOk P w K mg base CX0 (27 + 4 * (d + 1) + 1) a.law_expr.1 a.law_expr.2 ["state", "program", "names", "kind", "deep"] (spExpr (fun _ => True) M (d + 1) (NB M (d + 1)) (DB M (d + 1))) := by
      refine expr_step (d := d + 1) (N0 := NB M d) (D0 := DB M d) (N := NB M (d + 1)) (D := DB M (d + 1)) (okS := True) (lv := 27 + 4 * (d + 1)) T (by omega) hM20 (by omega) (less fun e he => ?_) (down fun e he => ?_) (down fun e he => ?_) (fun _ _ => trivial) ?_ (by unfold DB; omega) (by show 3 * NB M d + 10 ≤ 3 * NB M d + (3 * (LB M + 10) + 10) + 10; omega) (by unfold DB; omega)
      · exact ((ih e he (by omega)).mono (by omega)).imp fun vs H Q E => spExpr_mono (NB_mono (by omega)) (DB_mono (by omega))
      · obtain rfl : e = d := by omega
        exact ((ok_law_num T (by omega) Ed).mono (by omega)).imp fun vs H Q E => spNum_mono (by show _ ≤ 3 * NB M e + (3 * (LB M + 10) + 10) + 10; omega) (by unfold DB; omega)
      · obtain rfl : e = d := by omega
        exact ((ok_law_seq T (lv := 30 + 4 * e) (by omega) hM20 Ed (EN.mono (by omega))).mono (by omega)).imp fun vs H Q E => spSeq_mono (by show _ ≤ 3 * NB M e + (3 * (LB M + 10) + 10) + 10; omega) (by unfold DB; omega)
      · have := NB_mono (M := M) (Nat.zero_le (d + 1))
        exact Nat.le_trans (by show LB M ≤ LB M + 10; omega) this
    exact step.mono (by omega)
end
end K2

namespace K2
open PySem PySem.Spec PyProof.Rows L2
def sing (x : Str) (k : Kd) : Gm := Gm.put (fun _ => none) x k
def WellF (S : Sg) (f : Fn) : Prop := ty S (sing f.param f.given) f.body = some f.result
theorem find_app {S S' : Sg} {x : Str} {p : Kd × Kd} (h : find S x = some p) : find (S ++ S') x = some p := by
  unfold find at *
  rw [List.find?_append]
  cases e : S.find? (fun p => decide (p.1 = x)) with
  | none => rw [e] at h; cases h
  | some y => rw [e] at h; exact h
theorem ty_sg {S S' : Sg} (hs : ∀ x p, find S x = some p → find S' x = some p) : ∀ {e : Ex} {G : Gm} {k : Kd}, ty S G e = some k → ty S' G e = some k
  | .num _, _, _, h => h
  | .var _, _, _, h => h
  | .bnd false x a b, G, k, h => by
    simp only [ty] at h ⊢
    split at h
    · rename_i k1 e1; rw [ty_sg hs e1]; exact ty_sg hs h
    · cases h
  | .bnd true x a b, G, k, h => by
    simp only [ty] at h ⊢
    split at h
    · rename_i k1 e1
      rw [ty_sg hs e1]
      obtain ⟨k2, e2, rfl⟩ := Option.map_eq_some_iff.mp h
      show Option.map _ _ = _
      rw [ty_sg hs e2]; rfl
    · cases h
  | .op s a b, G, k, h => by
    simp only [ty] at h ⊢
    split at h
    · rename_i c; rw [if_pos ⟨c.1, ty_sg hs c.2.1, ty_sg hs c.2.2⟩]; exact h
    · cases h
  | .call f a, G, k, h => by
    simp only [ty] at h ⊢
    split at h
    · rename_i g r e
      rw [hs _ _ e]
      split at h
      · rename_i c; dsimp only; rw [if_pos (ty_sg hs c)]; exact h
      · cases h
    · cases h
  | .f1 w a, G, k, h => by
    simp only [ty] at h ⊢
    split at h
    · rename_i c; rw [ty_sg hs c]; exact h
    · cases h
  | .f2 w a b, G, k, h => by
    simp only [ty] at h ⊢
    split at h
    · rename_i c d; rw [ty_sg hs c, ty_sg hs d]; exact h
    · cases h
  | .ite c a b, G, k, h => by
    simp only [ty] at h ⊢
    split at h
    · rename_i c1
      rw [if_pos (ty_sg hs c1)]
      split at h
      · rename_i c2; rw [ty_sg hs c2]
        split at h
        · rename_i c3; dsimp only; rw [if_pos (ty_sg hs c3)]; exact h
        · cases h
      · cases h
    · cases h
def fname (i : Nat) : Str := "f" ++ (toString ((0 : Int) + (i : Nat)) : Str)
structure PgOk (M d : Nat) (fs : List Fn) : Prop where
  ok : FsOk (base4 ++ fs)
  well : ∀ f ∈ base4 ++ fs, WellF (sg (base4 ++ fs)) f
  par : ∀ f ∈ fs, f.param = "a"
  sz : ∀ f ∈ fs, f.body.sz ≤ NB M d ∧ f.body.dep ≤ DB M d
  nm : fs.map (·.name) = (List.range fs.length).map fname
  pre : ∀ i f, fs[i]? = some f → ty (sg (base4 ++ fs.take i)) (sing f.param f.given) f.body = some f.result
theorem nd_names {n : Nat} (h : n ≤ 2) : (base4.map (·.name) ++ (List.range n).map fname).Nodup := by
  match n, h with
  | 0, _ => decide +kernel
  | 1, _ => decide +kernel
  | 2, _ => decide +kernel
theorem base_well : ∀ f ∈ base4, WellF (sg base4) f := by
  intro f hf
  simp only [base4, List.mem_cons, List.not_mem_nil, or_false] at hf
  unfold WellF
  rcases hf with rfl | rfl | rfl | rfl <;> decide +kernel
theorem PgOk.zero {M d : Nat} : PgOk M d [] :=
  ⟨⟨by decide +kernel, by decide +kernel, by decide⟩, fun f hf => by rw [List.append_nil] at hf ⊢; exact base_well f hf, fun _ h => (nomatch h), fun _ h => (nomatch h), rfl, fun _ _ h => (nomatch h)⟩
theorem PgOk.snoc {M d : Nat} {fs : List Fn} (h : PgOk M d fs) (hl : fs.length ≤ 1) {f : Fn} (hn : f.name = fname fs.length) (hp : f.param = "a") (hg : f.given.dep ≤ 3) (hr : f.result.dep ≤ 3) (ht : ty (sg (base4 ++ fs)) (sing "a" f.given) f.body = some f.result)
    (hs : f.body.sz ≤ NB M d) (hd : f.body.dep ≤ DB M d) : PgOk M d (fs ++ [f]) := by
  have app : base4 ++ (fs ++ [f]) = (base4 ++ fs) ++ [f] := (List.append_assoc _ _ _).symm
  have sub : ∀ x p, find (sg (base4 ++ fs)) x = some p → find (sg (base4 ++ (fs ++ [f]))) x = some p := fun x p e => by
    rw [app]
    unfold sg at *
    rw [List.map_append]
    exact find_app e
  have nm : (fs ++ [f]).map (·.name) = (List.range (fs ++ [f]).length).map fname := by
    rw [List.map_append, h.nm, List.length_append, List.length_singleton, List.range_succ, List.map_append, List.map_singleton, hn]; rfl
  refine ⟨⟨?_, fun g hg' => ?_, ?_⟩, fun g hg' => ?_, fun g hg' => ?_, fun g hg' => ?_, nm, fun i g hi => ?_⟩
  · rw [List.map_append, nm]
    exact nd_names (by rw [List.length_append]; show fs.length + 1 ≤ 2; omega)
  · rw [app] at hg'
    rcases List.mem_append.mp hg' with hg' | hg'
    · exact h.ok.dp g hg'
    · rw [List.mem_singleton.mp hg']; exact ⟨hg, by omega⟩
  · rw [List.length_append, List.length_append]; show 4 + (fs.length + 1) ≤ 8; omega
  · rw [app] at hg'
    rcases List.mem_append.mp hg' with hg' | hg'
    · exact ty_sg sub (h.well g hg')
    · rw [List.mem_singleton.mp hg']
      unfold WellF
      rw [hp]
      exact ty_sg sub ht
  · rcases List.mem_append.mp hg' with hg' | hg'
    · exact h.par g hg'
    · rw [List.mem_singleton.mp hg']; exact hp
  · rcases List.mem_append.mp hg' with hg' | hg'
    · exact h.sz g hg'
    · rw [List.mem_singleton.mp hg']; exact ⟨hs, hd⟩
  · by_cases c : i < fs.length
    · rw [List.getElem?_append_left c] at hi
      rw [List.take_append_of_le_length (Nat.le_of_lt c)]
      exact h.pre i g hi
    · have li := (List.getElem?_eq_some_iff.mp hi).1
      rw [List.length_append, List.length_singleton] at li
      obtain rfl : i = fs.length := by omega
      rw [List.getElem?_append_right (Nat.le_refl _), Nat.sub_self] at hi
      cases hi
      rw [List.take_append_of_le_length (Nat.le_refl _), List.take_length, hp]
      exact ht
section
variable {P : Program} {w : World} {K : PySem.W.Frag} {mg : Str → Option Value} {base : Heap} {a : GAd}
def spProgram (M d : Nat) : Sp := fun vs H Q _ => ∃ (st c : Addr) (z : Int), vs = [.ref st, .int z] ∧ z = d ∧ StAt H st c ∧
  ∀ (H' : Hp) (p : Addr) (fs : List Fn), Go st c H H' → p ≠ st → p ≠ c → H p = none → PgAt H' p (base4 ++ fs) → PgOk M d fs → 1 ≤ fs.length → fs.length ≤ 2 → Q (.ref p) H'
theorem ok_law_program (T : GTxt K mg a) {M d : Nat} (hM20 : M ≤ 20) (hd : d + 3 ≤ M) : FnOk P w K mg base CX0 (31 + 4 * d) a.law_program.1 a.law_program.2 ["state", "deep"] (spProgram M d) := by
  rw [show 31 + 4 * d = 30 + 4 * d + 1 from by omega]
  refine T.law_program.F.ok sc_law_program (fun vs H Q E h => ?_) (fun cdv A outer s H vs Q E hr h => ?_)
  · obtain ⟨_, _, _, rfl, _⟩ := h
    rfl
  obtain ⟨st, c, zd, rfl, hz, hS, q⟩ := h
  have nd := sc_law_program.nd
  have G_law_draw := ok_law_draw (P := P) (w := w) (base := base) T
  have G_law_kind := ok_law_kind (P := P) (w := w) (base := base) T 2
  have G_law_down := ok_law_down (P := P) (w := w) (base := base) T
  have G_law_sorted := ok_law_sorted (P := P) (w := w) (base := base) T
  have G_law_turns := ok_law_turns (P := P) (w := w) (base := base) T
  have G_law_expr := ok_law_expr (P := P) (w := w) (base := base) T hM20 d hd
  refine ⟨_, (pss_cons (ps_set (i := 2) nd rfl (Or.inl rfl) (pe_op op_cat (pe_lst (pa_cons (pe_call0 G_law_down (hr.mono (by omega)) rfl T.law_down.g T.law_down.F.kp T.law_down.b .nil pass0 ) (pa_cons (pe_call0 G_law_sorted (hr.mono (by omega)) rfl T.law_sorted.g T.law_sorted.F.kp T.law_sorted.b .nil pass0 ) pa_nil))) (pe_call0 G_law_turns (hr.mono (by omega)) rfl T.law_turns.g T.law_turns.F.kp T.law_turns.b .nil pass0 )))
  (pss_cons (ps_for PassesOwn.never rfl (pi_range1 rfl T.range (pa_cons (pe_op op_add pe_int (pe_call G_law_draw (hr.mono (by omega)) rfl T.law_draw.g T.law_draw.F.kp T.law_draw.b .nil pass0 (pa_cons (pv 0) (pa_cons pe_int pa_nil)))) pa_nil)) (pg_name (i := 3) nd rfl (Or.inl rfl)) (pss_cons (ps_set (i := 4) nd rfl (Or.inl rfl) (pe_call G_law_kind (hr.mono (by omega)) rfl T.law_kind.g T.law_kind.F.kp T.law_kind.b .nil pass0 (pa_cons (pv 0) (pa_cons pe_int pa_nil))))
  (pss_cons (ps_set (i := 5) nd rfl (Or.inl rfl) (pe_call G_law_kind (hr.mono (by omega)) rfl T.law_kind.g T.law_kind.F.kp T.law_kind.b .nil pass0 (pa_cons (pv 0) (pa_cons pe_int pa_nil))))
  (pss_cons (ps_set (i := 6) nd rfl (Or.inl rfl) (pe_call G_law_expr (hr.mono (by omega)) rfl T.law_expr.g T.law_expr.F.kp T.law_expr.b .nil pass0 (pa_cons (pv 0) (pa_cons (pv 2) (pa_cons (pe_disp (pps_cons pe_str (pv 4) pps_nil) (by rfl) (by rfl) (fun z => by cases z) (by decide)) (pa_cons (pv 5) (pa_cons (pv 1) pa_nil)))))))
  (pss_one (ps_expr (pe_bm PySem.F.plainAttrs_list PySem.F.slot_list_append PySem.F.type_list_append mt_append (pv 2) (pa_cons (pe_tup (pa_cons pe_str (pa_cons (pe_op op_add_str pe_str (pe_callTy call_str_int (by rfl) T.str (by decide +kernel) (pa_cons (pv 3) pa_nil))) (pa_cons pe_str (pa_cons (pv 4) (pa_cons (pv 5) (pa_cons (pv 6) pa_nil))))))) pa_nil))))))))
  (pss_one (ps_ret (pv 2))))), ?_⟩
  refine ⟨rfl, fun H1 v1 s1 f1 => ⟨rfl, fun H2 v2 s2 f2 => ⟨(by show 2 ≤ sizeLine; decide), fun l1 hl1 => ?_⟩⟩⟩
  have s3 := same_new hl1 (.lst [v1, v2])
  refine ⟨rfl, fun H4 l2 us s4 hl2 hus ft => ?_⟩
  have ul := ft.len
  refine ⟨l1, l2, _, us, rfl, rfl, s4 _ _ upd_same, hus, by rw [ul]; show 2 + 2 ≤ sizeLine; decide, fun p hp => ?_⟩
  have s04 := ((s1.trans s2).trans s3).trans s4
  have gp := Go.same hS (s04.trans (same_new hp (.lst ([v1, v2] ++ us))))
  have hp0 : H p = none := by
    cases e : H p with
    | none => rfl
    | some o => rw [s04 _ _ e] at hp; cases hp
  obtain ⟨n1, n2⟩ := hS.ne2 hp0
  have kp := Kt.new (o := .lst ([v1, v2] ++ us)) hp
  have b4 : FnsAt (upd H4 p (.lst ([v1, v2] ++ us))) base4 ([v1, v2] ++ us) := ⟨(f1.kt (Kt.of ((s2.trans s3).trans s4))).kt kp, (f2.kt (Kt.of (s3.trans s4))).kt kp, ft.kt kp⟩
  refine ⟨_, rfl, st, c, _, rfl, gp.2, by decide, by decide, fun H5 n g5 n0 n2' => ?_⟩
  refine ⟨_, _, rfl, rfl, _, rfl, by omega, by omega, ?_⟩
  have g05 := gp.trans g5
  have p5 := g5.1 _ _ n1 n2 (upd_same (a := p))
  have b5 := b4.kt (g5.kt gp.2)
  have hn : (1 + n).toNat = 1 ∨ (1 + n).toNat = 2 := by omega
  refine for_range (lo := 0) (n := (1 + n).toNat) (fun i σ H' => ∃ (us : List V) (fs : List Fn) (x3 x4 x5 x6 : Option V), σ = [some (.ref st), some (.int zd), some (.ref p), x3, x4, x5, x6] ∧ Go st c H H' ∧ H' p = some (.lst us) ∧ FnsAt H' (base4 ++ fs) us ∧ PgOk M d fs ∧ fs.length = i) ⟨_, [], none, none, none, none, rfl, g05, p5, by rw [List.append_nil]; exact b5, PgOk.zero, rfl⟩ ?_ ?_
  · rintro i σ H' hi ⟨us, fs, x3, x4, x5, x6, rfl, g6, p6, b6, ok6, hl⟩
    refine ⟨_, rfl, st, c, rfl, g6.2, fun H7 k7 v7 g7 hk7 dk7 => ?_⟩
    refine ⟨_, rfl, st, c, rfl, g7.2, fun H8 k8 v8 g8 hk8 dk8 => ?_⟩
    have kt8 := g8.kt g7.2
    refine ⟨_, rfl, _, rfl, fun nb hnb => ?_⟩
    have eqd : upd (upd H8 nb (.dK [])) nb (.dK (mergeK [] [(.inr "a", v7)])) = upd H8 nb (.dK [(.inr "a", v7)]) := by rw [upd_upd]; rfl
    obtain ⟨HA, eA⟩ : ∃ HA, HA = upd (upd H8 nb (.dK [])) nb (.dK (mergeK [] [(.inr "a", v7)])) := ⟨_, rfl⟩
    have gA : Go st c H8 HA := by rw [eA, eqd]; exact Go.new g8.2 hnb
    have kA := gA.kt g8.2
    have g0A := ((g6.trans g7).trans g8).trans gA
    have g6A := (g7.trans g8).trans gA
    have p7 := g6A.1 _ _ n1 n2 p6
    have b7 := b6.kt (g6A.kt g6.2)
    have a7 := hk7.kt (kt8.trans kA)
    have nm : NmAt HA nb (sing "a" k7) 1 := by
      refine ⟨[(.inr "a", v7)], ["a"], by rw [eA, eqd]; exact upd_same, rfl, by decide, fun x hx => ?_, fun x v hx => ?_⟩
      · show (if x = "a" then some k7 else none) = none
        refine if_neg fun e => ?_
        rw [e, valV_pos rfl] at hx
        cases hx
      · show ∃ k, (if x = "a" then some k7 else none) = some k ∧ _
        by_cases e : x = "a"
        · rw [if_pos e]
          rw [e, valV_pos rfl] at hx
          cases hx
          exact ⟨k7, rfl, a7, by omega⟩
        · rw [valV_neg (fun z => e (Sum.inr.inj z).symm)] at hx
          cases hx
    have Wx : Wd HA st c p nb (base4 ++ fs) (sing "a" k7) 1 := ⟨gA.2, ⟨us, p7, b7⟩, n1, n2, nm, ⟨show (if ("i" : Str) = "a" then some k7 else none) = none from if_neg (by decide +kernel), show (if ("k" : Str) = "a" then some k7 else none) = none from if_neg (by decide +kernel)⟩, ok6.ok⟩
    refine ⟨_, rfl, upd_same, [(.inr "a", v7)], rfl, (by show 1 ≤ 15; decide), _, rfl, _, rfl, ?_⟩
    rw [← eA]
    refine ⟨st, c, p, nb, v8, k8, base4 ++ fs, sing "a" k7, 1, zd, rfl, hz, Wx, hk8.kt kA, trivial, by omega, by omega, fun HB e1 vB gB aB tB sB dB => ?_⟩
    have g6B := g6A.trans gB
    have pB := g6B.1 _ _ n1 n2 p6
    have hl2 : fs.length ≤ 1 := by omega
    refine ⟨_, rfl, .inl ⟨rfl, _, SqL.of pB⟩, _, rfl, _, rfl, ?_, ?_⟩
    · rcases (show i = 0 ∨ i = 1 by omega) with rfl | rfl <;> decide
    refine ⟨_, _, rfl, rfl, ?_, _, rfl, _, rfl, _, rfl, (by show 6 ≤ sizeLine; decide), fun pC hpC => ?_⟩
    · rcases (show i = 0 ∨ i = 1 by omega) with rfl | rfl <;> decide +kernel
    have kC := Kt.new (o := .tup [.str "function", .str (fname i), .str "a", v7, v8, vB]) hpC
    have fC : FnAt (upd HB pC (.tup [.str "function", .str (fname i), .str "a", v7, v8, vB])) ⟨fname i, "a", k7, k8, e1⟩ (.ref pC) := ⟨pC, v7, v8, vB, rfl, upd_same, (a7.kt (gB.kt gA.2)).kt kC, ((hk8.kt kA).kt (gB.kt gA.2)).kt kC, aB.kt kC⟩
    have pC' := (same_new hpC (.tup [.str "function", .str (fname i), .str "a", v7, v8, vB])) _ _ pB
    have kD : Kt (upd HB pC (.tup [.str "function", .str (fname i), .str "a", v7, v8, vB])) (upd (upd HB pC (.tup [.str "function", .str (fname i), .str "a", v7, v8, vB])) p (.lst (us ++ [.ref pC]))) := fun b xs e => by
      rw [upd_ne (fun z => by rw [z, pC'] at e; cases e)]; exact e
    have gC := Go.new (o := .tup [.str "function", .str (fname i), .str "a", v7, v8, vB]) gB.2 hpC
    have ulen := b6.len
    refine ⟨p, us, _, rfl, rfl, pC', small1000 (by rw [ulen, List.length_append]; show 4 + fs.length ≤ 1000; omega), us ++ [.ref pC], fs ++ [⟨fname i, "a", k7, k8, e1⟩], _, _, _, _, rfl, ?_, upd_same, ?_, ?_, by rw [List.length_append, hl]; rfl⟩
    · have g0C := (g6.trans g6B).trans gC
      refine ⟨fun b o m1 m2 e => ?_, ?_⟩
      · rw [upd_ne (fun z => by rw [z, hp0] at e; cases e)]
        exact g0C.1 b o m1 m2 e
      · obtain ⟨ns, z, e1, e2⟩ := g0C.2
        exact ⟨ns, z, by rw [upd_ne n1.symm]; exact e1, by rw [upd_ne n2.symm]; exact e2⟩
    · rw [← List.append_assoc]
      exact FnsAt.snoc (fC.kt kD) (((b7.kt (gB.kt gA.2)).kt kC).kt kD)
    · exact ok6.snoc hl2 (by rw [hl]) rfl dk7 dk8 tB sB dB
  · rintro σ H' ⟨us, fs, x3, x4, x5, x6, rfl, g6, p6, b6, ok6, hl⟩
    exact ⟨_, rfl, q _ p fs g6 n1 n2 hp0 ⟨us, p6, b6⟩ ok6 (by omega) (by omega)⟩
end
end K2

/-! sets of texts: made, added to, gathered in order -/
namespace TX
open PySem PySem.Spec PyProof.Rows L2
section
variable {P : Program} {w : World}
/-- what a set of texts at a is: its entries es, its table rises and can be walked -/
def Raw (P : Program) (w : World) (h : Heap) (a : Addr) (es : List (Int × Value)) : Prop :=
  ∃ (ob : Obj) (xs : Array (Int × Value)) (ep : Nat) (tb : SetTable), h.get? a = some ob ∧ ob.ExactSet ∧ ob.data = .set xs ep tb ∧ xs.toList = es ∧
    ElemsOf (strKind P w) es ∧ es.length < scanBound ∧ tb.fits xs.size = true ∧ Ris tb.place.toList ∧ (w.params.followText "set-order" = true ∨ tb.led = true)
variable {h h' : Heap} {a : Addr} {es : List (Int × Value)} {A : Around} {E : Value → Shared → Prop} {s : Shared}
theorem Raw.keep (R : Raw P w h a es) (k : ∀ ob, h.get? a = some ob → h'.get? a = some ob) : Raw P w h' a es :=
  let ⟨ob, xs, ep, tb, g, r⟩ := R
  ⟨ob, xs, ep, tb, k ob g, r⟩
theorem Raw.there (R : Raw P w h a es) : ∃ ob, h.get? a = some ob := let ⟨ob, _, _, _, g, _⟩ := R; ⟨ob, g⟩
theorem Raw.typeIs (R : Raw P w s.heap a es) : s.TypeIs (.ref a) "set" := let ⟨ob, _, _, _, g, x, _⟩ := R; ⟨ob, g, x.1⟩
theorem Raw.noDict (R : Raw P w s.heap a es) : ∀ b, Value.ref a = .ref b → ∃ ob, s.heap.get? b = some ob ∧ ob.dict = none := fun b z => by
  cases z
  obtain ⟨ob, _, _, _, g, x, _⟩ := R
  exact ⟨ob, g, x.2.1⟩
/-- behind a new entry the table may be laid anew -/
theorem grow {give : Bool → Sem Unit} (hgive : ∀ (b : Bool) (s1 : Shared) (Z : Unit → Shared → Prop), Z () s1 → wpAny (model P w) A (give b) Z E s1)
    {ob : Obj} {xs : Array (Int × Value)} {ep : Nat} {tb : SetTable} (g : s.heap.get? a = some ob) (x : ob.ExactSet) (d : ob.data = .set xs ep tb)
    {ys : Array (Int × Value)} {tc : SetTable} (el : ElemsOf (strKind P w) ys.toList) (small : ys.size < scanBound) (fit : tc.fits ys.size = true) (ri : Ris tc.place.toList)
    (le : w.params.followText "set-order" = true ∨ tc.led = true) {dm : Bool} {R : Option Bool → Shared → Prop}
    (hR : ∀ h' zs, Heap.SameBut a s.heap h' → Raw P w h' a zs → zs.Perm ys.toList → R (some true) { s with heap := h' }) :
    wpAny (model P w) A (do
        storeSet a ys tc
        if (!dm && tc.tooFull) = true then do
            give (relayAll tc ys (SetTable.grown ys.size)).2.2
            storeSet a (relayAll tc ys (SetTable.grown ys.size)).1 (relayAll tc ys (SetTable.grown ys.size)).2.1
            pure (some true)
          else pure (some true)) R E s := by
  have first := store_at (es' := ys) (t' := tc) g d
  have same := Heap.SameBut.update s.heap a (Obj.putSet ys tc)
  refine wpAny_bind (wpAny_storeSet_of g d ?_ (fits_of_scanBound small))
  split
  · have q1 := relayAll_perm tc ys (SetTable.grown ys.size)
    have q2 := relayAll_fits tc ys (SetTable.grown ys.size)
    have q3 := relayAll_ris tc ys (SetTable.grown ys.size)
    have q4 := relayAll_led tc ys (SetTable.grown ys.size)
    revert q1 q2 q3 q4
    generalize relayAll tc ys (SetTable.grown ys.size) = again
    obtain ⟨zs, td, gv⟩ := again
    intro q1 q2 q3 q4
    dsimp only at q1 q2 q3 q4 ⊢
    have len : zs.size = ys.size := by rw [← Array.length_toList, q1.length_eq, Array.length_toList]
    refine wpAny_bind (hgive _ _ _ (wpAny_bind (wpAny_storeSet_of first rfl ?_ (fits_of_scanBound (by rw [len]; exact small)))))
    refine wpAny_pure (hR _ zs.toList (same.trans (Heap.SameBut.update _ a _)) ⟨_, zs, _, td, store_at (es' := zs) (t' := td) first rfl, x, rfl, rfl, fun e he => el e (q1.mem_iff.mp he), ?_, q2, q3, ?_⟩ q1)
    · rw [Array.length_toList, len]; exact small
    · exact le.imp id fun z => by rw [q4]; exact z
  · exact wpAny_pure (hR _ ys.toList same ⟨_, ys, _, tc, first, x, rfl, rfl, el, by rw [Array.length_toList]; exact small, fit, ri, le⟩ (List.Perm.refl _))
theorem add_hashed {k : Str} {tk : Tok} {Q : Bool → Shared → Prop} (R : Raw P w s.heap a es) (room : es.length + 1 < scanBound)
    (h1 : (∃ e ∈ es, (strKind P w).is k e.2 = true) → Q false s)
    (h2 : (∀ e ∈ es, (strKind P w).is k e.2 = false) → ∀ h' zs, Heap.SameBut a s.heap h' → Raw P w h' a zs → zs.Perm (((strKind P w).hash k, Value.str k tk) :: es) → Q true { s with heap := h' }) :
    wpAny (model P w) A (setAddHashed a (.str k tk) ((strKind P w).hash k)) Q E s := by
  obtain ⟨ob, xs, ep, tb, g, x, d, rfl, el, small, fit, ri, le⟩ := R
  rw [Array.length_toList] at small room
  have own : (strKind P w).is k (.str k tk) = true := strKind_is P w k tk
  have scan : (Value.str k tk).scannable = true := rfl
  unfold setAddHashed setAddHashedIn
  refine wpAny_holding (wpAny_bind (wpAny_setState_of g d fit ?_))
  dsimp only
  rw [byScan_of scan small el]
  simp only [↓reduceIte]
  unfold setAddByScan
  refine wpAny_bind (wpAny_bind (wpAny_rule (wpAny_bind (wpAny_setScan_of own g d fit el ?_))))
  cases seek : List.findIdx? (fun e => (strKind P w).is k e.2) xs.toList with
  | some j =>
    obtain ⟨hj, pj, _⟩ := List.findIdx?_eq_some_iff_getElem.mp seek
    exact wpAny_pure (wpAny_pure (h1 ⟨_, List.getElem_mem hj, pj⟩))
  | none =>
    have lone : ∀ e ∈ xs.toList, (strKind P w).is k e.2 = false := fun e he => by
      have c := List.findIdx?_eq_none_iff.mp seek e he
      simpa using c
    have e1 := layNew_perm tb xs ((strKind P w).hash k) (.str k tk)
    have e2 := layNew_fits tb xs ((strKind P w).hash k) (.str k tk)
    have e3 := layNew_ris tb xs ((strKind P w).hash k) (.str k tk) ri
    have e4 := layNew_led tb xs ((strKind P w).hash k) (.str k tk)
    revert e1 e2 e3 e4
    dsimp only
    generalize layNew tb xs ((strKind P w).hash k) (.str k tk) = laid
    obtain ⟨ys, tc, dm, gv⟩ := laid
    intro e1 e2 e3 e4
    dsimp only at e1 e2 e3 e4 ⊢
    rw [Array.toList_push] at e1
    have order : ys.toList.Perm (((strKind P w).hash k, Value.str k tk) :: xs.toList) := e1.trans (List.perm_append_singleton _ _)
    have many : ys.size = xs.size + 1 := by rw [← Array.length_toList, order.length_eq, List.length_cons, Array.length_toList]
    have small2 : ys.size < scanBound := by rw [many]; exact room
    have el2 : ElemsOf (strKind P w) ys.toList := fun e he => by
      rcases List.mem_cons.mp (order.mem_iff.mp he) with z | z
      · rw [z]; exact ⟨⟨k, own, rfl⟩, scan⟩
      · exact el e z
    have le2 : w.params.followText "set-order" = true ∨ tc.led = true := le.imp id fun z => by rw [e4]; exact z
    have gives : ∀ (b : Bool) {s1 : Shared} {Z : Unit → Shared → Prop}, Z () s1 → wpAny (model P w) A (match b with | true => rule "set.scan.the-table-gave-way" | false => pure ()) Z E s1 :=
      fun b s1 Z q => by cases b <;> first | exact wpAny_pure q | exact wpAny_rule q
    refine wpAny_bind (gives _ ?_)
    split
    · refine wpAny_bind ?_
      rw [hashByValue_scannable 8 scan]
      refine wpAny_pure (grow ?_ g x d el2 small2 ?_ ?_ ?_ ?_)
      · intro b s1 Z q; cases b <;> first | exact wpAny_pure q | exact wpAny_rule q
      · first | (split <;> first | exact e2 | exact SetTable.fits_plain_off e2) | exact e2
      · first | (split <;> exact e3) | exact e3
      · first | (split <;> exact le2) | exact le2
      · intro h' zs sb r pm; dsimp only; exact wpAny_pure (h2 lone h' zs sb r (pm.trans order))
    · refine wpAny_bind (wpAny_pure ?_)
      simp only [↓reduceIte]
      refine grow ?_ g x d el2 small2 e2 e3 le2 ?_
      · intro b s1 Z q; cases b <;> first | exact wpAny_pure q | exact wpAny_rule q
      · intro h' zs sb r pm; dsimp only; exact wpAny_pure (h2 lone h' zs sb r (pm.trans order))

/-! ### add, as a call -/
theorem call_add {k : Str} {tk : Tok} {Q : Value → Shared → Prop} (R : Raw P w s.heap a es) (room : es.length + 1 < scanBound)
    (h1 : (∃ e ∈ es, (strKind P w).is k e.2 = true) → Q .none { s with toks := s.toks + 1 })
    (h2 : (∀ e ∈ es, (strKind P w).is k e.2 = false) → ∀ h' zs, Heap.SameBut a s.heap h' → Raw P w h' a zs → zs.Perm (((strKind P w).hash k, Value.str k tk) :: es) → Q .none { s with heap := h', toks := s.toks + 1 }) :
    wpAny (model P w) A (call (.builtin "set.add") [.ref a, .str k tk]) Q E s := by
  refine wpAny_call_entry F.slot_set_add R.typeIs F.entry_set_add ?_ (F.args_set_add_2 _ _)
  unfold Builtin.«set.add» Builtin.Frozenset.oneOther
  simp only [List.isEmpty_nil, bind_assoc]
  unfold Builtin.Frozenset.addrOf setAdd
  refine wpAny_bind (wpAny_pure ?_)
  try dsimp only
  refine wpAny_bind (wpAny_pure ?_)
  try dsimp only
  refine wpAny_bind (wpAny_holding (wpAny_bind ((strKind P w).pyHash (strKind_is P w k tk) ?_)))
  refine add_hashed (s := { s with toks := s.toks + 1 }) R room (fun z => ?_) fun z h' zs sb r pm => ?_
  · show wpAny _ _ (ret Value.none) _ _ _
    exact wpAny_pure ⟨_, rfl, h1 z⟩
  · show wpAny _ _ (ret Value.none) _ _ _
    exact wpAny_pure ⟨_, rfl, h2 z h' zs sb r pm⟩
/-! ### the loop of set(xs) -/
def txt : Value → Str
  | .str x _ => x
  | _ => Str.empty
def texts (es : List (Int × Value)) : List Str := es.map fun e => txt e.2
theorem elem_text {e : Int × Value} (h : ElemsOf (strKind P w) es) (he : e ∈ es) : ∃ x tk, e.2 = .str x tk ∧ ∀ k, (strKind P w).is k e.2 = decide (k = x) := by
  obtain ⟨⟨k, hk, _⟩, _⟩ := h e he
  have q : Value.isStrOf k e.2 = true := hk
  obtain ⟨t, ht⟩ := Value.isStrOf_shape q
  exact ⟨k, t, ht, fun j => KeyKind.is_eq_decide hk j⟩
theorem not_in_texts {k : Str} (el : ElemsOf (strKind P w) es) (h : ∀ e ∈ es, (strKind P w).is k e.2 = false) : k ∉ texts es := fun m => by
  obtain ⟨e, he, z⟩ := List.mem_map.mp m
  obtain ⟨x, tk, hx, hd⟩ := elem_text el he
  have q := h e he
  rw [hd k] at q
  rw [hx] at z
  exact of_decide_eq_false q z.symm
theorem in_texts {k : Str} (el : ElemsOf (strKind P w) es) (h : ∃ e ∈ es, (strKind P w).is k e.2 = true) : k ∈ texts es := by
  obtain ⟨e, he, q⟩ := h
  obtain ⟨x, tk, hx, hd⟩ := elem_text el he
  rw [hd k] at q
  refine List.mem_map.mpr ⟨e, he, ?_⟩
  rw [hx]
  exact (of_decide_eq_true q).symm
theorem Raw.elems (R : Raw P w h a es) : ElemsOf (strKind P w) es := let ⟨_, _, _, _, _, _, _, _, el, _⟩ := R; el
/-- the set of the texts L at a, each once -/
def Set (P : Program) (w : World) (h : Heap) (a : Addr) (L : List Str) : Prop := ∃ es, Raw P w h a es ∧ (texts es).Perm L ∧ L.Nodup
def adds (L : List Str) (k : Str) : List Str := if k ∈ L then L else k :: L
theorem Set.keep {L : List Str} (R : Set P w h a L) (k : ∀ ob, h.get? a = some ob → h'.get? a = some ob) : Set P w h' a L := let ⟨es, r, q⟩ := R; ⟨es, r.keep k, q⟩
theorem add_text {L : List Str} {k : Str} {tk : Tok} {Q : Value → Shared → Prop} (R : Set P w s.heap a L) (room : L.length + 1 < scanBound)
    (hQ : ∀ h', Heap.SameBut a s.heap h' → Set P w h' a (adds L k) → Q .none { s with heap := h', toks := s.toks + 1 }) :
    wpAny (model P w) A (call (.builtin "set.add") [.ref a, .str k tk]) Q E s := by
  obtain ⟨es, r, pm, nd⟩ := R
  have hl : es.length = L.length := by rw [← pm.length_eq]; exact (List.length_map _).symm
  refine call_add r (by omega) (fun z => ?_) fun z h' zs sb r' pm' => ?_
  · have hin : k ∈ L := pm.mem_iff.mp (in_texts r.elems z)
    exact hQ s.heap (Heap.SameBut.refl a s.heap) ⟨es, r, by unfold adds; rw [if_pos hin]; exact pm, by unfold adds; rw [if_pos hin]; exact nd⟩
  · have hnot : k ∉ L := fun m => not_in_texts r.elems z (pm.mem_iff.mpr m)
    refine hQ h' sb ⟨zs, r', ?_, ?_⟩
    · unfold adds
      rw [if_neg hnot]
      have q := pm'.map fun e => txt e.2
      exact q.trans (List.Perm.cons _ pm)
    · unfold adds
      rw [if_neg hnot]
      exact List.nodup_cons.mpr ⟨hnot, nd⟩
/-- the texts met so far -/
def met (xs : List Str) : List Str := xs.foldl adds []
theorem met_snoc (xs : List Str) (x : Str) : met (xs ++ [x]) = adds (met xs) x := by unfold met; rw [List.foldl_append]; rfl
theorem adds_mem {L : List Str} {k x : Str} : x ∈ adds L k ↔ x ∈ L ∨ x = k := by
  unfold adds
  by_cases c : k ∈ L
  · rw [if_pos c]
    exact ⟨.inl, fun z => z.elim id fun e => e ▸ c⟩
  · rw [if_neg c, List.mem_cons]
    exact or_comm
theorem met_mem_from (xs : List Str) : ∀ (L : List Str) (x : Str), x ∈ xs.foldl adds L ↔ x ∈ L ∨ x ∈ xs := by
  induction xs with
  | nil => intro L x; simp
  | cons y r ih =>
    intro L x
    rw [List.foldl_cons, ih, adds_mem, List.mem_cons, or_assoc]
theorem met_mem {xs : List Str} {x : Str} : x ∈ met xs ↔ x ∈ xs := by
  unfold met
  rw [met_mem_from]
  simp
theorem adds_length (L : List Str) (k : Str) : (adds L k).length ≤ L.length + 1 := by
  unfold adds
  split
  · omega
  · exact Nat.le_refl _
theorem met_length_from (xs : List Str) : ∀ L : List Str, (xs.foldl adds L).length ≤ L.length + xs.length := by
  induction xs with
  | nil => intro L; exact Nat.le_refl _
  | cons y r ih =>
    intro L
    have q := ih (adds L y)
    have z := adds_length L y
    rw [List.foldl_cons, List.length_cons]
    omega
theorem met_length (xs : List Str) : (met xs).length ≤ xs.length := by
  have q := met_length_from xs []
  rw [List.length_nil] at q
  unfold met
  omega
theorem loop {R : Result → Shared → Prop} {I S : Addr} {fp wr : List Addr} {G : Array GenState → Array GenState → Prop} {n : Nat} {Pv : Nat → Value → Prop} {St : Nat → Shared → Prop}
    (W : WalksS P w A.in1 I fp wr G n Pv St) (hS : S ∉ fp) (xs : List Str) (hn : n = xs.length) (hv : ∀ i v, Pv i v → ∃ t, v = .str (xs.getD i Str.empty) t) (room : n + 1 < scanBound) :
    ∀ (k i : Nat) (s : Shared), n - i = k → i ≤ n → St i s → Set P w s.heap S (met (xs.take i)) →
      (∀ s', Moved (S :: wr) G s s' → Set P w s'.heap S (met xs) → R (.ok (.ret .none)) s') →
      codeAny (model P w) A (.builtin "set.update.loop" ⟨[.ref S, .ref I], []⟩) R s := by
  have hSw : S ∉ wr := fun z => hS (W.sub _ z)
  have up : ∀ b ∈ wr, b ∈ S :: wr := fun b hb => List.mem_cons_of_mem _ hb
  intro k
  induction k with
  | zero =>
    intro i s hk hi hst hset hR
    have ei : i = n := by omega
    subst ei
    refine codeAny_builtin PyProof.Rows.F.entry_set_update_loop ?_
    rw [Around.under_plainId PyProof.Rows.F.plain_set_update_loop _]
    show wpAny _ A.in1 (pyNext (.ref I) >>= _) _ _ s
    refine wpAny_bind (W.done s _ _ hst fun s' hm => ?_)
    show wpAny _ A.in1 (ret Value.none) _ _ s'
    refine wpAny_pure (hR s' (hm.mono up) (Set.keep ?_ fun ob e => hm.heap S ob hSw e))
    rw [hn, List.take_length] at hset
    exact hset
  | succ k ih =>
    intro i s hk hi hst hset hR
    have lt : i < n := by omega
    refine codeAny_builtin PyProof.Rows.F.entry_set_update_loop ?_
    rw [Around.under_plainId PyProof.Rows.F.plain_set_update_loop _]
    show wpAny _ A.in1 (pyNext (.ref I) >>= _) _ _ s
    refine wpAny_bind (W.item i s _ _ lt hst fun v s' hP hst' hm => ?_)
    obtain ⟨t, rfl⟩ := hv i v hP
    have set1 : Set P w s'.heap S (met (xs.take i)) := hset.keep fun ob e => hm.heap S ob hSw e
    show wpAny _ A.in1 (holding [Value.str (xs.getD i Str.empty) t] (setAdd S (.str (xs.getD i Str.empty) t)) >>= _) _ _ s'
    refine wpAny_bind (wpAny_holding ?_)
    unfold setAdd
    refine wpAny_holding (wpAny_bind ((strKind P w).pyHash (strKind_is P w _ _) ?_))
    obtain ⟨es, r, pm, nd⟩ := id set1
    have len : es.length ≤ i := by
      have q1 := met_length (xs.take i)
      have q2 := pm.length_eq
      rw [texts, List.length_map] at q2
      rw [List.length_take] at q1
      omega
    have ex : met (xs.take (i + 1)) = adds (met (xs.take i)) (xs.getD i Str.empty) := by
      have hlt : i < xs.length := by omega
      rw [List.take_succ_eq_append_getElem hlt, met_snoc, List.getD_eq_getElem?_getD, List.getElem?_eq_getElem hlt]
      rfl
    have go : ∀ h', Heap.SameBut S s'.heap h' → Set P w h' S (met (xs.take (i + 1))) → codeAny (model P w) A (.builtin "set.update.loop" ⟨[.ref S, .ref I], []⟩) R { s' with heap := h', toks := s'.toks + 1 } := by
      intro h' sb set2
      refine ih (i + 1) _ (by omega) lt (W.frame _ s' _ _ hst' (Nat.le_succ _) fun b hb ob e => ?_) set2 fun s2 hm2 set3 => ?_
      · rw [sb.2 b (fun z : b = S => hS (by rw [← z]; exact hb))]; exact e
      · refine hR s2 (Moved.trans W.gtrans ((hm.mono up).then_heap (Nat.le_succ _) fun b ob hb e => ?_) hm2) set3
        rw [sb.2 b (fun z : b = S => hb (by rw [z]; exact List.mem_cons_self))]; exact e
    refine add_hashed (s := { s' with toks := s'.toks + 1 }) r (by omega) (fun z => ?_) fun z h' zs sb r' pm' => ?_
    · have hin := pm.mem_iff.mp (in_texts r.elems z)
      refine wpAny_pure ⟨plainId_quiet PyProof.Rows.F.plain_set_update_loop _, go s'.heap (Heap.SameBut.refl S s'.heap) ?_⟩
      rw [ex]
      unfold adds
      rw [if_pos hin]
      exact set1
    · have hnot := fun m => not_in_texts r.elems z (pm.mem_iff.mpr m)
      refine wpAny_pure ⟨plainId_quiet PyProof.Rows.F.plain_set_update_loop _, go h' sb ⟨zs, r', ?_, ?_⟩⟩
      · rw [ex]
        unfold adds
        rw [if_neg hnot]
        have q : (texts zs).Perm (xs.getD i Str.empty :: texts es) := pm'.map _
        exact q.trans (List.Perm.cons _ pm)
      · rw [ex]
        unfold adds
        rw [if_neg hnot]
        exact List.nodup_cons.mpr ⟨hnot, nd⟩
/-! ### set(xs), xs a list of texts -/
theorem new_led (v : Value) {Z : Value → Shared → Prop}
    (hz : Z (.ref s.heap.objs.size) { s with heap := s.heap.push { cls := .type "set", dict := none, data := .set #[] 0 (.fresh 0 0 (!w.params.followText "set-order")) } }) :
    codeAny (model P w) A (.call (.builtin "set.__new__") ⟨[.type "set", v], []⟩) (wants Z E) s := by
  refine codeAny_of_tree ?_
  show wpAny _ A.in1 (do checkBuiltinCall "set.__new__" ⟨[.type "set", v], []⟩; again (.builtin "set.__new__" ⟨[.type "set", v], []⟩)) _ _ s
  refine wpAny_bind (wpAny_of_eq (PySem.F.newCall_set_1 v) (wpAny_pure ⟨plainId_quiet F.plain_set_new _, codeAny_builtin F.entry_set_new ?_⟩))
  rw [Around.under_plainId F.plain_set_new _]
  unfold Builtin.«set.__new__» Builtin.Frozenset.newClass
  have own := sub_set_self
  obtain ⟨hp, gn, dr, tk, os⟩ := s
  dsimp only
  wp_walk
  refine wpAny_askSetting (wpAny_pure ?_)
  dsimp only
  simp only [newObj]
  exact wpAny_bind (wpAny_alloc (wpAny_pure (wpAny_pure hz)))
abbrev fresh (w : World) : Obj := { cls := .type "set", dict := none, data := .set #[] 0 (.fresh 0 0 (!w.params.followText "set-order")) }
theorem raw_fresh {h : Heap} {a : Addr} (e : h.get? a = some (fresh w)) : Raw P w h a [] :=
  ⟨_, #[], 0, _, e, ⟨rfl, rfl, rfl⟩, rfl, rfl, (fun e he => by simp at he), (by decide), (by rfl), List.Pairwise.nil, by
    show _ ∨ (!w.params.followText "set-order") = true
    cases w.params.followText "set-order"
    · exact .inr rfl
    · exact .inl rfl⟩
theorem str_at : ∀ {vs : List Value} {xs : List Str}, StrsAre vs xs → ∀ (i : Nat) (v : Value), vs[i]? = some v → ∃ t, v = .str (xs.getD i Str.empty) t
  | _, _, .nil, i, v, z => by simp at z
  | _, _, .cons x t r, 0, v, z => by simp at z; exact ⟨t, by rw [← z]; rfl⟩
  | _, _, .cons x t r, i + 1, v, z => by
    simp only [List.getElem?_cons_succ] at z
    obtain ⟨t', e⟩ := str_at r i v z
    exact ⟨t', by rw [e]; rfl⟩
set_option maxHeartbeats 8000000 in
theorem set_of_list {l : Addr} {items : Array Value} {xs : List Str} {Q : Value → Shared → Prop} (hh : A.handled = none) (hl : s.heap.IsList l items) (hi : StrsAre items.toList xs) (hb : items.size + 1 < scanBound)
    (hQ : ∀ (h' : Heap) (tk : Nat), Set P w h' s.heap.objs.size (met xs) → (∀ b ob, b < s.heap.objs.size → s.heap.get? b = some ob → h'.get? b = some ob) → Q (.ref s.heap.objs.size) { s with heap := h', toks := tk }) :
    wpAny (model P w) A (call (.type "set") [.ref l]) Q E s := by
  have len : items.size = xs.length := by
    have q := hi.length
    rw [Array.length_toList] at q
    exact q
  obtain ⟨c, tl, hmro⟩ := F.called_set.mro
  have hmade := F.called_set.made
  have hsub := F.called_set.sub
  refine wpAny_call (codeAny_of_tree ?_)
  show wpAny _ _ (callAny (.type "set") _) _ _ _
  refine wpAny_pure ⟨Code.quiet_builtin _ (by decide +kernel), codeAny_builtin F.entry_type_call ?_⟩
  rw [Around.under_plain (weight_type_call_type "set" [.ref l] []) rfl]
  have h1 := F.called_set.notType
  have h2 := F.called_set.canCreate
  have hct := PySem.F.typeCall_set_1 (.ref l)
  repeat (any_goals (first | assumption | wp_step))
  refine codeAny_mono (new_led (.ref l) (E := E) (Z := fun ob s1 => ob = .ref s.heap.objs.size ∧ s1 = { s with heap := s.heap.push (fresh w) }) ⟨rfl, rfl⟩) fun r s1 hr => ?_
  cases r with
  | error e => exact hr
  | ok fl =>
    cases fl with
    | ret ob =>
      obtain ⟨rfl, rfl⟩ := hr
      have at0 : (s.heap.push (fresh w)).get? s.heap.objs.size = some (fresh w) := Heap.get?_push_size _ rfl
      have ty0 : Shared.TypeIs { s with heap := s.heap.push (fresh w) } (.ref s.heap.objs.size) "set" := ⟨_, at0, rfl⟩
      have hli := F.called_set.init.lookup
      have hbi := F.called_set.init.bind (.ref s.heap.objs.size)
      repeat (any_goals (first | assumption | wp_step))
      refine codeAny_mono (codeAny_call_builtin (R := wants (fun r s2 => r = .none ∧ ∃ h' tk, s2 = { s with heap := h', toks := tk } ∧ Set P w h' s.heap.objs.size (met xs) ∧
          (∀ b ob, b < s.heap.objs.size → s.heap.get? b = some ob → h'.get? b = some ob)) E) F.called_set.init.plain F.entry_set_init (PySem.check_set_init_1 ty0 ?_)) fun r2 s2 hr2 => ?_
      · obtain ⟨ol, hol, hcl, nl, hdl⟩ := hl
        obtain ⟨ocls, odict, odata, oslots⟩ := ol
        simp only at hcl hdl
        subst hcl; subst hdl
        have hol' := Heap.get?_push_of_some (fresh w) hol
        have n1 := PySem.F.sub_list_set
        have n2 := PySem.F.sub_list_frozenset
        have n3 : (Value.type "list" == Value.type "dict") = false := by decide
        have isl : (s.heap.push (fresh w)).IsList l items := ⟨_, hol', rfl, nl, rfl⟩
        unfold Builtin.«set.__init__» noKeywords Builtin.Frozenset.updateFrom
        generalize hPI : pyIter = PI
        wp_walk
        subst hPI
        refine wpAny_pyIter_list isl (wpAny_bind (wpAny_runValue ?_))
        have lt : l < s.heap.objs.size := Heap.lt_size hol
        have hh3 : A.in1.in1.in1.handled = none := by simp [hh]
        have ne1 : l ≠ (s.heap.push (fresh w)).objs.size := by
          rw [Heap.size_push]; exact Nat.ne_of_lt (Nat.lt_succ_of_lt lt)
        have ne2 : s.heap.objs.size ∉ [(s.heap.push (fresh w)).objs.size, l] := by
          rw [Heap.size_push]; simp only [List.mem_cons, List.mem_singleton, List.not_mem_nil, or_false, not_or]
          exact ⟨Nat.ne_of_lt (Nat.lt_succ_self _), Nat.ne_of_gt lt⟩
        refine loop ((Walks.list hh3 _ l ne1 items).toS) ne2 xs len (fun i v hv => str_at hi i v (by rw [Array.getElem?_toList]; exact hv)) hb (items.size - 0) 0 _ (by omega) (Nat.zero_le _)
          ⟨⟨_, Heap.get?_push_size _ rfl, rfl, rfl⟩, (isl.push _)⟩ ⟨[], raw_fresh (Heap.get?_push_of_some _ at0), List.Perm.refl _, List.nodup_nil⟩ fun s3 hm set3 => ?_
        obtain ⟨h', g', d', tk', os'⟩ := s3
        have eg : g' = s.gens := hm.gens
        have ed : d' = s.drawn := hm.drawn
        have eo : os' = s.os := hm.os
        subst eg; subst ed; subst eo
        show wpAny _ _ _ _ _ _
        refine wpAny_pure ?_
        show wpAny _ _ (ret Value.none) _ _ _
        refine wpAny_pure ⟨rfl, h', tk', rfl, set3, fun b ob hb e => ?_⟩
        have b1 : b ≠ s.heap.objs.size := Nat.ne_of_lt hb
        have b2 : b ≠ (s.heap.push (fresh w)).objs.size := by
          rw [Heap.size_push]; exact Nat.ne_of_lt (Nat.lt_succ_of_lt hb)
        exact hm.heap b ob (by simp only [List.mem_cons, List.mem_singleton, List.not_mem_nil, or_false, not_or]; exact ⟨b1, b2⟩) (Heap.get?_push_of_some _ (Heap.get?_push_of_some _ e))
      · cases r2 with
        | error e => exact hr2
        | ok fl2 =>
          cases fl2 with
          | ret r =>
            obtain ⟨rfl, h', tk, rfl, set3, k3⟩ := hr2
            repeat (any_goals (first | assumption | wp_step))
            exact hQ _ _ set3 k3
          | _ => exact hr2.elim
    | _ => exact hr.elim
/-! ### sorted -/
theorem sorted_texts {L : List Str} {Q : Value → Shared → Prop} (R : Set P w s.heap a L) (hh : A.handled = none)
    (hQ : ∀ s' p (out : Array Value) (c : Nat) (ys : List Str), (∀ b ob, s.heap.get? b = some ob → s'.heap.get? b = some ob) → s'.gens = s.gens → s'.os = s.os → s.heap.objs.size ≤ p →
      s'.heap.get? p = some (seqObj "list" out c) → StrsAre out.toList ys → ys.Perm L → sortedS ys = true → Q (.ref p) s') :
    wpAny (model P w) A (call (.builtin "sorted") [.ref a]) Q E s := by
  obtain ⟨es, r, pm, nd⟩ := R
  have el := r.elems
  obtain ⟨ob, xs, ep, tb, g, x, d, rfl, _, small, fit, ri, le⟩ := r
  rw [Array.length_toList] at small
  refine Calls.call_function_entry kind_sorted plain_sorted entry_sorted (args_sorted1 _) ?_
  unfold Builtin.«sorted»
  refine wpAny_bind (m := checkCount "sorted" 1 1 _) (wpAny_pure ?_)
  refine wpAny_bind (collect_set (A := A.in1) hh ⟨ob, g, x.1, d⟩ fit small ri le fun s1 vs k1 hz g1 o1 q1 => ?_)
  have many : vs.length = xs.size := by rw [q1.length_eq, List.length_map, Array.length_toList]
  have are : StrsAre vs (vs.map strOf) := strsAre_map vs fun v hv => by
    obtain ⟨e, he, q⟩ := List.mem_map.mp (q1.mem_iff.mp hv)
    obtain ⟨y, tk, hy, _⟩ := elem_text el he
    exact ⟨y, tk, by rw [← q]; exact hy⟩
  have ord : (vs.map strOf).Perm L := by
    refine (q1.map strOf).trans ?_
    rw [List.map_map]
    refine List.Perm.trans ?_ pm
    refine List.Perm.of_eq (List.map_congr_left fun e he => ?_)
    obtain ⟨y, tk, hy, _⟩ := elem_text el he
    show strOf e.2 = txt e.2
    rw [hy]
    rfl
  have room : vs.length ≤ sizeLine := by rw [many, sizeLine_eq]; unfold scanBound at small; omega
  refine wpAny_bind (wpAny_newList ?_ room)
  have new : (s1.heap.push (seqObj "list" vs.toArray 0)).get? s1.heap.objs.size = some (seqObj "list" vs.toArray 0) := Heap.get?_push_size _ rfl
  refine wpAny_bind (wpAny_holding (wpAny_call_entry slot_list_sort ⟨_, new, rfl⟩ entry_list_sort
    (list_sort_treeKAny strKind_oneLt new are.keysOf (fun v1 v2 rest e => keyKind_strs (by rw [← e]; exact are)) room fun st hp hs => ?_) (args_list_sort _)))
  obtain ⟨ys, y1, y2, y3⟩ := sorted_out_str are hp hs
  obtain ⟨c, hc⟩ := sortedHeap_at (vs := vs) (out := (arrOf st).map (·.2)) new
  refine ⟨_, rfl, wpAny_pure ⟨_, rfl, hQ _ s1.heap.objs.size _ c ys (fun b u e => ?_) g1 o1 hz hc y1 (y2.trans ord) y3⟩⟩
  have q := k1 b u e
  have lt := Heap.lt_size q
  show (sortedHeap (s1.heap.push (seqObj "list" vs.toArray 0)) s1.heap.objs.size vs ((arrOf st).map (·.2))).get? b = some u
  rw [sortedHeap_old (Nat.ne_of_lt lt) (by rw [size_push']; exact Nat.lt_succ_of_lt lt)]
  exact Heap.get?_push_of_some _ q
end
end TX

namespace TX
open PySem PySem.Spec PyProof.Rows L2
/-- the set of texts at a, as something tracked -/
def TxS (P : Program) (w : World) (a : Addr) (L : List Str) : HO := .ext fun h => Set P w h a L
section
variable {X : Cx}
theorem txs_new {P : Program} {w : World} {H : Hp} {h : Heap} {a : Addr} {L : List Str} (R : Set P w h a L) : ObjOk P w H h a (TxS P w a L) :=
  ⟨R, let ⟨_, r, _⟩ := R; r.there, fun _ _ p k => p.keep k⟩
theorem txs_get {pins : List (Addr × Obj)} {σ : L2.St} {H : Hp} {s : Shared} {a : Addr} {L : List Str} (I : Inv X pins σ H s) (e : H a = some (TxS X.prog X.w a L)) : Set X.prog X.w s.heap a L := (I.hok a _ e).1
/-- set() -/
theorem cr_setTx0 : CallR X (.type "set") (fun xs H Q => xs = [] ∧ ∀ p, H p = none → Q (.ref p) (upd H p (TxS X.prog X.w p []))) := by
  intro pins s σ H xs us Q I r h
  obtain ⟨rfl, q⟩ := h
  cases r
  refine setR_new fun _ => ?_
  have new : Set X.prog X.w (s.heap.push (fresh X.w)) s.heap.objs.size [] := ⟨[], raw_fresh (Heap.get?_push_size _ rfl), List.Perm.refl _, List.nodup_nil⟩
  exact ⟨.ref _, upd H s.heap.objs.size (TxS X.prog X.w s.heap.objs.size []), I.laid (t' := s.toks) (fun b u e => Heap.get?_push_of_some _ e) (Nat.le_refl _) (txs_new new), rfl, q _ (I.hok.fresh (Nat.le_refl _))⟩
/-- set(xs), xs a list of texts -/
theorem cr_setTx (hc : X.calm = true) : CallR X (.type "set") (fun xs H Q => ∃ (l : Addr) (ys : List Str), xs = [V.ref l] ∧ SqL X.K H l (ys.map V.str) ∧ ys.length + 1 < scanBound ∧ ∀ p, H p = none → Q (.ref p) (upd H p (TxS X.prog X.w p (met ys)))) := by
  intro pins s σ H xs us Q I r h
  obtain ⟨l, ys, rfl, hl, hb, q⟩ := h
  rw [Vals.ref1 r]
  obtain ⟨its, rv, pl, hz⟩ := I.list hl
  have hn : H s.heap.objs.size = none := I.hok.fresh (Nat.le_refl _)
  have hlen : its.length = ys.length := by
    have z := rv.length
    rw [List.length_map] at z
    exact z.symm
  refine set_of_list (P := X.prog) (w := X.w) (I.ok.hd hc) pl.isList (by simpa using rv.strs) (by rw [List.size_toArray, hlen]; exact hb) fun h' tk R k => ?_
  exact ⟨.ref _, upd H s.heap.objs.size (TxS X.prog X.w s.heap.objs.size (met ys)), I.laid (t' := tk) (fun b u e => k b u (Heap.lt_size e) e) (Nat.le_refl _) (txs_new R), rfl, q _ hn⟩
/-- found.add(k) -/
def tAddTx (P : Program) (w : World) (to : TE) (t : TA) : TE := fun σ H Q => to σ H fun x H1 => (∃ a L, x = V.ref a ∧ H1 a = some (TxS P w a L)) ∧ t σ H1 fun ys H2 =>
  ∃ (a : Addr) (L : List Str) (k : Str), x = V.ref a ∧ ys = [V.str k] ∧ H2 a = some (TxS P w a L) ∧ L.length + 1 < scanBound ∧ Q .non (upd H2 a (TxS P w a (adds L k)))
variable {o e : Expr} {es : List Expr} {to : TE} {t : TA} {apos cpos : Pos}
theorem pe_addTx (ho : PE X o to) (ha : PA X (e :: es) t)
    (base : attributeBase o "add" X.env (eval o X.env) = eval o X.env := by rfl)
    (few : ((backTo cpos (starEach (e :: es) X.env)).all (fun x => !x.1) && (backToKw cpos (keywordEach [] X.env)).all (fun x => x.1.isSome)
      && decide ((e :: es).length + ([] : List Keyword).length + (if ([] : List Keyword).isEmpty then 0 else 1) < 30)) = true := by rfl)
    (line : (apos.endLine == cpos.line) = true := by rfl) (star : starEach (e :: es) X.env = (false, eval e X.env) :: starEach es X.env := by rfl) (plain : (backTo cpos (starEach es X.env)).any (·.1) = false := by rfl) :
    PE X (.Call (.Attribute o "add" apos) (e :: es) [] cpos) (tAddTx X.prog X.w to t) := by
  refine ⟨fun pins s σ H Q I h => ?_⟩
  refine wpAny_Call_method_late base few line rfl (thn (ho.run pins s σ H _ I h) fun v s1 ⟨x, H1, I1, r1, ty, q1⟩ => ?_)
  obtain ⟨a, L, rfl, hka⟩ := ty
  cases r1
  obtain ⟨_, rr, _⟩ := txs_get I1 hka
  refine ⟨"set", "set.add", F.plainAttrs_set, F.slot_set_add, F.type_set_add, rr.typeIs, rr.noDict, ?_⟩
  have hA := ha.run cpos pins s1 σ H1 _ I1 q1
  rw [star] at hA ⊢
  refine Calls.callWith_builtin (by show (false || (backTo cpos (starEach es X.env)).any (·.1)) = false; rw [plain] <;> rfl) (Calls.evalArgs_plain ?_)
  refine thn hA fun us s2 ⟨vs, H2, I2, r2, a', L2', k, ea, ev, ha, hb, q2⟩ => ?_
  cases ea
  subst ev
  cases r2 with
  | cons ry rt =>
    cases rt
    obtain ⟨tk, rfl⟩ := ry
    refine add_text (txs_get I2 ha) hb fun h' sb new => ?_
    have hx : ∃ u, h'.get? a = some u := let ⟨_, r, _⟩ := new; r.there
    exact ⟨.non, upd H2 a (TxS X.prog X.w a (adds L2' k)), I2.write (e := a) (t' := s2.toks + 1) (by rw [ha]; trivial) (.inl rfl) (fun b u hb hu => (sb.2 b hb).trans hu) hx (txs_new new), rfl, q2⟩
/-- sorted(found) -/
theorem cr_sortedTx (hc : X.calm = true) : CallR X (.builtin "sorted") (fun vs H Q => ∃ (a : Addr) (L : List Str), vs = [V.ref a] ∧ H a = some (TxS X.prog X.w a L) ∧ L.length ≤ 1000 ∧
    ∀ (ys : List Str) (p : Addr), ys.Perm L → sortedS ys = true → H p = none → Q (.ref p) (upd H p (.lst (ys.map V.str)))) := by
  intro pins s σ H vs us Q I r h
  obtain ⟨a, L, rfl, ha, h1, q⟩ := h
  rw [Vals.ref1 r]
  refine sorted_texts (txs_get I ha) (I.ok.hd hc) fun s' p out c ys k g o hp hg hi pm hs => ?_
  have hlen : (ys.map V.str).length ≤ sizeLine := by rw [List.length_map, pm.length_eq]; exact Nat.le_of_lt (small1000 h1)
  have hn : H p = none := I.hok.fresh hp
  have J : Inv X pins σ (upd H p (.lst (ys.map V.str))) { s with heap := s'.heap, gens := s'.gens, drawn := s'.drawn, toks := s'.toks } :=
    I.call (ch := []) (Un.laid k hp hn) (I.hok.laid k hp ⟨hlen, out.toList, c, vals_of_strs hi, hg⟩) (by rw [g]; exact I.bare) (fun _ z => nomatch z)
  obtain ⟨h', gg, dd, tt, oo⟩ := s'
  cases o
  exact ⟨.ref p, _, J, rfl, q ys p pm hs hn⟩
end
end TX

namespace MX
open PySem PySem.Spec PyProof.Rows L2
/-! ### match over texts -/
/-- the texts that a pattern names -/
def one : Pattern → Option Str
  | .MatchValue (.Constant (.str c) _ _) _ => some c
  | _ => none
def ones : List Pattern → Option (List Str)
  | [] => some []
  | p :: r => match one p, ones r with
    | some c, some cs => some (c :: cs)
    | _, _ => none
theorem ones_inv {p : Pattern} {r : List Pattern} {cs : List Str} (h : ones (p :: r) = some cs) : ∃ c cs', one p = some c ∧ ones r = some cs' ∧ cs = c :: cs' := by
  unfold ones at h
  split at h
  · rename_i c cs' e1 e2
    cases h
    exact ⟨c, cs', e1, e2, rfl⟩
  · cases h
def texts : Pattern → Option (List Str)
  | .MatchOr ps _ => ones ps
  | p => (one p).map fun c => [c]
theorem one_inv {p : Pattern} {c : Str} (h : one p = some c) : ∃ j a b, p = .MatchValue (.Constant (.str c) j a) b := by
  unfold one at h
  split at h
  · cases h; exact ⟨_, _, _, rfl⟩
  · cases h
abbrev TC := V → TS
section
variable {X : Cx}
structure PMc (X : Cx) (cs : List MatchCase) (t : TC) : Prop where
  run : ∀ (first : Bool) (pins : List (Addr × Obj)) (s : Shared) (σ : L2.St) (H : Hp) (v : V) (u : Value) (D : Ends), Inv X pins σ H s → RelV v u → t v D σ H → wpAny (model X.prog X.w) X.A (matchCases cs X.env u first) (SP X pins D) X.xe s
theorem one_run {p : Pattern} {c z : Str} {t : Tok} {pins : List (Addr × Obj)} {s : Shared} {σ : L2.St} {H : Hp} {E : Value → Shared → Prop} {Q : Option (List (Str × Value)) → Shared → Prop} (h : one p = some c) (I : Inv X pins σ H s)
    (q : ∀ s', Inv X pins σ H s' → Q (if z = c then some [] else none) s') : wpAny (model X.prog X.w) X.A (matchPattern p X.env (.str z t)) Q E s := by
  obtain ⟨j, a, b, rfl⟩ := one_inv h
  refine wpAny_matchPattern_Value (Calls.Constant_str (PyProof.Rows.eq_str (wpAny_truthy_bool ?_)))
  have qq := q _ (I.tok (s.toks + 1))
  by_cases e : z = c
  · rw [if_pos e] at qq
    rw [if_pos (by rw [e]; exact beq_self_eq_true c)]
    exact qq
  · rw [if_neg e] at qq
    rw [if_neg (by simpa using e)]
    exact qq
theorem first_run {z : Str} {t : Tok} {pins : List (Addr × Obj)} {σ : L2.St} {H : Hp} {E : Value → Shared → Prop} : ∀ {ps : List Pattern} {cs : List Str} {s : Shared} {Q : Option (List (Str × Value)) → Shared → Prop}, ones ps = some cs → Inv X pins σ H s →
    (∀ s', Inv X pins σ H s' → Q (if z ∈ cs then some [] else none) s') → wpAny (model X.prog X.w) X.A (matchFirst ps X.env (.str z t)) Q E s
  | [], cs, s, Q, h, I, q => by
    cases h
    exact wpAny_matchFirst_nil (by have := q s I; rw [if_neg (List.not_mem_nil)] at this; exact this)
  | p :: ps, _, s, Q, h, I, q => by
        obtain ⟨c, r, e1, e2, rfl⟩ := ones_inv h
        refine wpAny_matchFirst_cons (one_run e1 I fun s1 I1 => ?_)
        by_cases c1 : z = c
        · rw [if_pos c1]
          have qq := q s1 I1
          rw [if_pos (by rw [c1]; exact List.mem_cons_self)] at qq
          exact qq
        · rw [if_neg c1]
          refine first_run e2 I1 fun s2 I2 => ?_
          have qq := q s2 I2
          by_cases c2 : z ∈ r
          · rw [if_pos (List.mem_cons_of_mem _ c2)] at qq
            rw [if_pos c2]
            exact qq
          · rw [if_neg (fun m => (List.mem_cons.mp m).elim c1 c2)] at qq
            rw [if_neg c2]
            exact qq
theorem nonames : ∀ {ps : List Pattern} {cs : List Str}, ones ps = some cs → namesOfAll (ps.take 1) = []
  | [], _, _ => rfl
  | p :: ps, cs, h => by
    obtain ⟨c, r, e1, e2, rfl⟩ := ones_inv h
    obtain ⟨j, a, b, rfl⟩ := one_inv e1
    rfl
theorem pat_run {p : Pattern} {cs : List Str} {z : Str} {t : Tok} {pins : List (Addr × Obj)} {s : Shared} {σ : L2.St} {H : Hp} {E : Value → Shared → Prop} {Q : Option (List (Str × Value)) → Shared → Prop} (h : texts p = some cs) (I : Inv X pins σ H s)
    (q : ∀ s', Inv X pins σ H s' → Q (if z ∈ cs then some [] else none) s') : wpAny (model X.prog X.w) X.A (matchPattern p X.env (.str z t)) Q E s := by
  unfold texts at h
  split at h
  · rename_i ps pos
    refine wpAny_matchPattern_Or (first_run h I fun s1 I1 => ?_)
    have qq := q s1 I1
    by_cases c : z ∈ cs
    · rw [if_pos c] at qq ⊢
      rw [nonames h]
      exact qq
    · rw [if_neg c] at qq ⊢
      exact qq
  · cases e : one p with
    | none => rw [e] at h; cases h
    | some c =>
      rw [e] at h
      cases h
      refine one_run e I fun s1 I1 => ?_
      have qq := q s1 I1
      by_cases c1 : z = c
      · rw [if_pos (by rw [c1]; exact List.mem_singleton.mpr rfl)] at qq
        rw [if_pos c1]
        exact qq
      · rw [if_neg (fun m => c1 (List.mem_singleton.mp m))] at qq
        rw [if_neg c1]
        exact qq
def tMnil : TC := fun _ D σ H => D.nx σ H
def tMtx (cs : List Str) (tb : TS) (r : TC) : TC := fun v D σ H => ∃ z, v = .str z ∧ if z ∈ cs then tb D σ H else r v D σ H
def tMany (tb : TS) : TC := fun _ D σ H => tb D σ H
def tMcap (i : Nat) (tb : TS) : TC := fun v D σ H => tb D (σ.set i (some v)) H
theorem pmc_nil : PMc X [] tMnil := ⟨fun _ _ _ σ H _ _ _ I _ h => wpAny_matchCases_nil ⟨σ, H, I, h⟩⟩
theorem pmc_tx {p : Pattern} {body : List Stmt} {rest : List MatchCase} {cs : List Str} {tb : TS} {r : TC} (h : texts p = some cs) (hb : PSs X body tb) (hr : PMc X rest r) : PMc X (⟨p, none, body⟩ :: rest) (tMtx cs tb r) := by
  refine ⟨fun first pins s σ H v u D I rv q => ?_⟩
  obtain ⟨z, rfl, q⟩ := q
  obtain ⟨t, rfl⟩ := rv
  refine wpAny_matchCases_cons (pat_run h I fun s1 I1 => ?_)
  by_cases c : z ∈ cs
  · rw [if_pos c] at q ⊢
    exact wpAny_assignInOrder_none (hb.run pins s1 σ H D I1 q)
  · rw [if_neg c] at q ⊢
    exact hr.run false pins s1 σ H (.str z) (.str z t) D I1 ⟨t, rfl⟩ q
theorem pmc_any {body : List Stmt} {rest : List MatchCase} {pos : Pos} {tb : TS} (hb : PSs X body tb) : PMc X (⟨.MatchAs none none pos, none, body⟩ :: rest) (tMany tb) :=
  ⟨fun first pins s σ H v u D I rv q => wpAny_matchCases_cons (wpAny_matchPattern_Capture (wpAny_assignInOrder_none (hb.run pins s σ H D I q)))⟩
theorem pmc_cap {body : List Stmt} {rest : List MatchCase} {pos : Pos} {n : Str} {i : Nat} {tb : TS} (hN : X.N.Nodup) (hi : X.N[i]? = some n) (hx : Loc X.env.scope n) (hb : PSs X body tb)
    (hf : X.fn n = true ∨ X.env.scope.names.lookup n = some .local := by first | exact .inl rfl | exact .inr rfl) : PMc X (⟨.MatchAs none (some n) pos, none, body⟩ :: rest) (tMcap i tb) := by
  refine ⟨fun first pins s σ H v u D I rv q => wpAny_matchCases_cons (wpAny_matchPattern_Capture ?_)⟩
  refine wpAny_assignInOrder_more (wpAny_bindName (store_ok I hN hi hx rv (fun s1 I1 => wpAny_assignInOrder_none (hb.run pins s1 _ H D I1 q)) hf))
/-- match e: .. -/
def tMatch (te : TE) (r : TC) : TS := fun D σ H => te σ H fun v H1 => r v D σ H1
theorem ps_match {e : Expr} {cases : List MatchCase} {pos : Pos} {te : TE} {r : TC} (he : PE X e te) (hc : PMc X cases r) : PS X (.Match e cases pos) (tMatch te r) :=
  ⟨fun pins s σ H D I h => wpAny_Match (thn (he.run pins s σ H _ I h) fun u s1 ⟨v, H1, I1, rv, q⟩ => hc.run true pins s1 σ H1 v u D I1 rv q)⟩
end
end MX

namespace DX
open PySem PySem.Spec PyProof.Rows L2
/-! ### del xs[a:] -/
theorem zip_cut {f : Value × Nat → Option Value} {a n : Nat} (hf : ∀ x k, k < n → f (x, k) = if a ≤ k then none else some x) : ∀ (xs : List Value) (i : Nat), i + xs.length ≤ n → (xs.zipIdx i).filterMap f = xs.take (a - i)
  | [], i, _ => by simp
  | x :: r, i, hn => by
    rw [List.length_cons] at hn
    rw [List.zipIdx_cons, List.filterMap_cons, hf _ _ (by omega)]
    have ih := zip_cut hf r (i + 1) (by omega)
    by_cases c : a ≤ i
    · rw [if_pos c, show a - i = 0 by omega]
      rw [show a - (i + 1) = 0 by omega] at ih
      simpa using ih
    · rw [if_neg c, show a - i = (a - (i + 1)) + 1 by omega, List.take_succ_cons, ih]
section
variable {prog : Program} {w : World} {A : Around} {E : Value → Shared → Prop} {s : Shared}
theorem bounds_from {a n : Nat} (ha : a ≤ n) : sliceBounds (some (a : Int)) none none n = ((a : Int), (n : Int), 1) := by
  simp only [sliceBounds, Option.getD_none]
  have h1 : ¬ ((a : Int) < 0) := by omega
  simp [h1]
  omega
theorem delItem_from {l sl : Addr} {items : Array Value} {n : Nat} {vl vu : Value} {a : Nat} {Q : Unit → Shared → Prop} (e : s.heap.get? l = some { cls := .type "list", data := .seq items n })
    (hs : s.heap.IsSliceOf sl vl vu .none) (pl : IsPart vl (some (a : Int))) (pu : IsPart vu none) (ha : a ≤ items.size) (hsz : items.size ≤ sizeLine)
    (h : ∀ F : Array Value → Array Value, F items = (items.toList.take a).toArray → Q () { s with heap := s.heap.update l (Obj.mapSeq F) }) :
    wpAny (model prog w) A (delItem (.ref l) (.ref sl)) Q E s := by
  have hl : s.heap.IsList l items := PySem.IsL.isList e
  obtain ⟨os, hos, hcs, hds⟩ := id hs
  have hTs : s.TypeIs (.ref sl) "slice" := ⟨os, hos, hcs⟩
  have hstep : ¬ ((rawPart none == rawInt 0) = true) := Bool.false_ne_true
  refine wpAny_delItem_slot hl.typeIs (by decide) F.slot_list_delitem ?_
  refine wpAny_call_entry F.slot_list_delitem hl.typeIs F.entry_list_delitem ?_ (F.args_list_delitem_2 _ _)
  show wpAny _ _ (Builtin.List.listSubscript? (.ref sl) >>= _) _ _ s
  refine wpAny_bind ?_
  unfold Builtin.List.listSubscript?
  refine wpAny_bind (wpAny_specialOf hTs slice_no_index ?_)
  simp only [Option.isNone_none, if_true]
  refine wpAny_pure ?_
  show wpAny _ _ (typeOf (.ref sl) >>= _) _ _ s
  refine wpAny_bind (wpAny_typeOf hTs ?_)
  first
    | rw [if_neg (by decide)]
    | refine PySem.W.KFB.if_not (by decide) ?_
  rw [listSliceParts_eq]
  refine wpAny_bind (wpAny_bind (wpAny_field hos hds (x := .none) rfl (wpAny_bind (wpAny_listPart .none ?_))))
  rw [if_neg hstep]
  refine wpAny_bind (wpAny_field hos hds (x := vl) rfl (wpAny_bind (wpAny_listPart pl ?_)))
  refine wpAny_bind (wpAny_field hos hds (x := vu) rfl (wpAny_bind (wpAny_listPart pu (wpAny_pure ?_))))
  dsimp only
  unfold Builtin.List.listItems
  refine wpAny_bind (wpAny_bind (wpAny_seqItems e rfl (wpAny_pure ?_)))
  refine wpAny_bind (wpAny_of_eq ((sliceIndices_raw (some (a : Int)) none none items.size (by simp)).trans (congrArg (pure : Int × Int × Int → Sem (Int × Int × Int)) (bounds_from ha))) ?_)
  refine wpAny_bind (wpAny_rule ?_)
  unfold Builtin.List.listUpdate
  have key : ∀ {f : Value × Nat → Option Value}, (∀ x k, k < items.size → f (x, k) = if a ≤ k then none else some x) → (items.toList.zipIdx.filterMap f).toArray = (items.toList.take a).toArray := by
    intro f hf
    rw [zip_cut hf items.toList 0 (by rw [Array.length_toList]; omega), Nat.sub_zero]
  have pick : ∀ {f : Value × Nat → Option Value}, (∀ x k, f (x, k) = if (decide ((a : Int) ≤ (k : Int)) && decide ((k : Int) < (items.size : Int)) && ((k : Int) - (a : Int)) % 1 == 0) = true then none else some x) → ∀ x k, k < items.size → f (x, k) = if a ≤ k then none else some x := by
    intro f hf x k hk
    rw [hf]
    have e0 : ((k : Int) - (a : Int)) % 1 = 0 := by omega
    by_cases c : a ≤ k
    · rw [if_pos c, if_pos]
      rw [e0, decide_eq_true (show (a : Int) ≤ (k : Int) by omega), decide_eq_true (show (k : Int) < (items.size : Int) by omega)]
      rfl
    · rw [if_neg c, if_neg]
      rw [decide_eq_false (show ¬ (a : Int) ≤ (k : Int) by omega)]
      simp
  have hk := fun {f} hf => key (f := f) (pick hf)
  refine wpAny_bind (wpAny_updateSeq (hz := hsz) (_hz' := ?_) e rfl ?_)
  · exact wpAny_bind (wpAny_letGo (wpAny_pure ⟨.none, rfl, h _ (hk fun x k => rfl)⟩))
  · show (List.toArray (List.filterMap _ items.toList.zipIdx)).size ≤ _
    rw [hk fun x k => rfl, List.size_toArray, List.length_take, Array.length_toList]
    omega
end
section
variable {X : Cx}
/-- del xs[a:], 0 ≤ a ≤ len(xs) -/
def tDelFrom (to ti : TE) : TS := fun D σ H => to σ H fun x H1 => tPart ti σ H1 fun y H2 => ∃ (l : Addr) (xs : List V) (a : Nat), x = .ref l ∧ y = some (a : Int) ∧ H2 l = some (.lst xs) ∧ a ≤ xs.length ∧ D.nx σ (upd H2 l (.lst (xs.take a)))
theorem ps_delFrom {o i : Expr} {to ti : TE} {tpos pos sp : Pos} (ho : PE X o to) (hi : PE X i ti) : PS X (.Delete [.Subscript o (.Slice (some i) none none sp) tpos] pos) (tDelFrom to ti) := by
  refine ⟨fun pins s σ H D I h => ?_⟩
  refine wpAny_Delete (wpAny_deleteEach_cons (wpAny_delete_Subscript (thn (ho.run pins s σ H _ I h) fun u s1 ⟨x, H1, I1, rx, q1⟩ => ?_)))
  refine wpAny_Slice (thn ((po_some hi).run pins s1 σ H1 _ I1 q1) fun vl s2 ⟨lo, H2, I2, pl, q2⟩ =>
    thn (po_none.run pins s2 σ H2 (fun o H3 => o = none ∧ H3 = H2) I2 ⟨rfl, rfl⟩) fun vu s3 ⟨hi', H3, I3, pu, eo, eh⟩ => ?_)
  · subst eo
    subst eh
    obtain ⟨l, xs, a, ex, elo, hH, ha, q⟩ := q2
    subst ex
    subst elo
    cases (show u = Value.ref l from rx)
    rw [evalPart_none]
    refine wpAny_pure ?_
    have I4 : Inv X pins σ H3 { s3 with heap := s3.heap.push { cls := .type "slice", data := .fields #[vl, vu, .none] } } := I3.kept (t' := s3.toks) fun b ob q => Heap.get?_push_of_some _ q
    obtain ⟨z, its, n, r, hl, e⟩ := I4.lstM hH
    have hlen := r.length
    refine delItem_from e (Heap.IsSliceOf.new _ vl vu .none) pl pu (a := a) (by rw [List.size_toArray]; omega) (by rw [List.size_toArray]; omega) fun F hF => wpAny_deleteEach_nil ?_
    refine ⟨σ, upd H3 l (.lst (xs.take a)), I4.lset (its' := its.take a) (t' := s3.toks) hH e (by rw [hF]) (r.take a) (by rw [List.length_take]; omega), q⟩
end
end DX

namespace DT
open PySem PySem.Spec PyProof.Rows L2
section
variable {X : Cx}
/-- {t: v}, t a tuple of numbers and texts -/
def tDispT (tk tv : TE) : TE := fun σ H Q => ∀ p, H p = none → tk σ (upd H p (.dT [])) fun y H1 => tv σ H1 fun x H2 => ∃ (b : Addr) (ks : List L2.Key), y = .ref b ∧ H2 b = some (.tup (ks.map kV)) ∧ H2 p = some (.dT []) ∧ Q (.ref p) (upd H2 p (.dT [(ks, x)]))
theorem pe_dispT {pos : Pos} {k v : Expr} {tk tv : TE} (hu : X.A.units + 1 < cLine) (hk : PE X k tk) (hv : PE X v tv) : PE X (.Dict [some k] [v] pos) (tDispT tk tv) := by
  refine ⟨fun pins s σ H Q I q => ?_⟩
  have hn := I.hok.fresh (Nat.le_refl s.heap.objs.size)
  have I1 := I.laid (a := s.heap.objs.size) (o := .dT []) (h' := s.heap.push { cls := .type "dict", data := .dict #[] }) (t' := s.toks) (fun _ _ q => Heap.get?_push_of_some _ q) (Nat.le_refl _) (dt_empty s.heap I.big)
  refine wpAny_Dict_any rfl rfl (by simp) (by simp) (thn ((pps_cons hk hv pps_nil).run pins _ σ _ (fun ps H2 => match ps with
    | [(y, x)] => ∃ (b : Addr) (ks : List L2.Key), y = .ref b ∧ H2 b = some (.tup (ks.map kV)) ∧ H2 s.heap.objs.size = some (.dT []) ∧ Q (.ref s.heap.objs.size) (upd H2 s.heap.objs.size (.dT [(ks, x)]))
    | _ => False) I1 (q _ hn)) fun ws s2 ⟨ps, H2, I2, rel, q2⟩ => ?_)
  match ps, rel, q2 with
  | [(y, x)], .cons (b := (u, r)) hh .nil, ⟨b, ks, ey, eb, e, q2⟩ =>
    obtain ⟨ry, rv⟩ := hh
    have ry : RelV y u := ry
    have rv : RelV x r := rv
    subst ey
    cases (show u = Value.ref b from ry)
    obtain ⟨z, hd, xs, relx, dd⟩ := dt_of I2.hok e
    cases relx
    unfold storeAll
    rw [List.forIn_cons]
    refine wpAny_bind (wpAny_bind (wpAny_dictSet_heap (hsz := Nat.zero_le _) (knd := tupleKind (mixKind X.prog X.w)) (by show X.A.units < cLine; omega) (key_of I2.hok eb) dd fun h' dd' hs => wpAny_pure ?_))
    show wpAny _ _ (forIn [] PUnit.unit _) _ _ _
    rw [List.forIn_nil]
    refine wpAny_pure ?_
    obtain ⟨o, es, ep, hq, h2, h3, h4, _, h5⟩ := dd'
    refine ⟨.ref s.heap.objs.size, _, d_write I2 (ob := .dT [(ks, x)]) (by rw [e]; exact True.intro) hs ⟨o, hq⟩ ⟨by show 1 ≤ sizeLine; decide, hd, _, ?_, o, es, ep, hq, h2, h3, h4, h5⟩, rfl, q2⟩
    have r0 : KT H2 [] [] := .nil
    refine (r0.put ks eb rv).keeps fun c ys ec => ?_
    rw [upd_ne (ne_of ec e (fun z => nomatch z))]
    exact ec
end
end DT

namespace ET
open PySem PySem.Spec PyProof.Rows L2
/-- xs.extend(t), t a tuple -/
theorem ext_tup (l : Addr) (items : Array Value) (n : Nat) (b : Addr) (items2 : Array Value) (h0 : ¬ (!items.isEmpty && Builtin.List.listTooLong (items.size + items2.size)) = true) (h1 : items.size ≤ sizeLine) (h2 : items.size + items2.size ≤ sizeLine + 1) :
    Meets (Builtin.«list.extend» ⟨[.ref l, .ref b], []⟩) (fun _ R s => s.heap.get? l = some { cls := .type "list", dict := none, data := .seq items n, slots := #[] } ∧ (∃ o m, s.heap.get? b = some o ∧ o.cls = .type "tuple" ∧ o.data = .seq items2 m) ∧ R (.ok (.ret Value.none)) { s with heap := s.heap.update l (Obj.mapSeq fun x => x ++ items2) }) := by
  intro prog w A R s h
  obtain ⟨hS, ⟨o, m, ho, hc, hd⟩, hR⟩ := h
  show wpAny _ A.in1 (Builtin.List.listExtendWith (.ref l) (.ref b) .none) _ _ s
  unfold Builtin.List.listExtendWith
  refine wpAny_bind (wpAny_typeOf ⟨o, ho, hc⟩ ?_)
  have e1 : (Builtin.List.listSameRef (.ref l) (.ref b) || Value.type "tuple" == Value.type "list" || Value.type "tuple" == Value.type "tuple") = true := by simp
  simp only [e1, if_true]
  refine wpAny_bind ?_
  unfold Builtin.List.listItems
  refine wpAny_bind (wpAny_seqItems ho hd (wpAny_pure ?_))
  refine wpAny_bind ?_
  refine wpAny_bind (wpAny_seqItems hS rfl (wpAny_pure ?_))
  rw [if_neg h0]
  show wpAny _ A.in1 (updateSeq l (· ++ items2) >>= fun _ => PySem.ret .none) _ _ s
  have hz' : (items ++ items2).size ≤ sizeLine + 1 := by rw [Array.size_append]; exact h2
  refine wpAny_bind (wpAny_updateSeq hS rfl (hz := h1) (_hz' := hz') ?_)
  exact wpAny_pure hR
section
variable {X : Cx}
def rExtT (K : PySem.W.Frag) : V → List V → Hp → VK → Prop := fun x vs H Q => ∃ l b xs zs, x = .ref l ∧ vs = [.ref b] ∧ H l = some (.lst xs) ∧ SqT K H b zs ∧ xs.length + zs.length ≤ sizeLine ∧ Q .non (upd H l (.lst (xs ++ zs)))
theorem mt_extT : MtM X "list.extend" (rExtT X.K) := by
  intro pins s σ H x vs v us Q I rx rv h
  obtain ⟨l, b, xs, zs, rfl, rfl, hH, hB, hz, q⟩ := h
  cases rx
  obtain ⟨u, rfl, ru⟩ := rv.one
  cases ru
  obtain ⟨z, its, n, r, hl, e⟩ := I.lstM hH
  obtain ⟨its2, r2, ⟨o, ho, hc, m, hd⟩, z2⟩ := I.tuple hB
  have hl2 := r2.length
  have hsz : its.toArray.size + its2.toArray.size ≤ sizeLine := by rw [List.size_toArray, List.size_toArray]; omega
  have hlong : ¬ (!its.toArray.isEmpty && Builtin.List.listTooLong (its.toArray.size + its2.toArray.size)) = true := by
    rw [notLongL hsz, Bool.and_false]
    exact Bool.false_ne_true
  refine call_meets F.slot_list_extend ⟨_, e, rfl⟩ F.entry_list_extend (F.args_list_extend_2 _ _)
    (ext_tup l its.toArray n b its2.toArray hlong (by rw [List.size_toArray]; omega) (by omega)) ⟨e, ⟨o, m, ho, hc, hd⟩, ?_⟩
  refine ⟨.non, _, I.lset (its' := its ++ its2) hH e (by simp) (r.append r2) ?_, rfl, q⟩
  rw [List.length_append]
  omega
end
end ET

namespace K2
open PySem PySem.Spec PyProof.Rows L2
/-! the program -/
structure PAd where
  parts_of : Addr × FuncData
  steps_inside : Addr × FuncData
  steps : Addr × FuncData
  free_names : Addr × FuncData
  taken_off : Addr × FuncData
  signatures_of : Addr × FuncData
  check : Addr × FuncData
  law_free : Addr × FuncData
  BIND : Addr
structure PTxt (K : PySem.W.Frag) (mg : Str → Option Value) (a : PAd) : Prop where
  parts_of : DefAt K mg "parts_of" s_parts_of ["e"] a.parts_of
  steps_inside : DefAt K mg "steps_inside" s_steps_inside ["e"] a.steps_inside
  steps : DefAt K mg "steps" s_steps ["e"] a.steps
  free_names : DefAt K mg "free_names" s_free_names ["e"] a.free_names
  taken_off : DefAt K mg "taken_off" s_taken_off ["stack", "many"] a.taken_off
  signatures_of : DefAt K mg "signatures_of" s_signatures_of ["program", "table"] a.signatures_of
  check : DefAt K mg "check" s_check ["program"] a.check
  law_free : DefAt K mg "_law_free" s_law_free ["e"] a.law_free
  list : mg "list" = none
  set : mg "set" = none
  len : mg "len" = none
  sorted : mg "sorted" = none
  reversed : mg "reversed" = none
  isinstance : mg "isinstance" = none
  int : mg "int" = none
  repr : mg "repr" = none
  tuple : mg "tuple" = none
  gBIND : mg "BINDERS" = some (.ref a.BIND)
  bind : ∀ H, SqT K H a.BIND [.str "let", .str "each"]

/-! ### forms -/
def w1s : List Str := ["first", "second", "iota", "len", "sum", "flat"]
def w2s : List Str := ["pair", "at", "keep", "append"]
def Ex.wf : Ex → Prop
  | .num _ | .var _ => True
  | .bnd _ _ a b | .op _ a b => a.wf ∧ b.wf
  | .call _ a => a.wf
  | .f1 w a => w ∈ w1s ∧ a.wf
  | .f2 w a b => w ∈ w2s ∧ a.wf ∧ b.wf
  | .ite c a b => c.wf ∧ a.wf ∧ b.wf
def Ex.parts : Ex → List Ex
  | .num _ | .var _ => []
  | .bnd _ _ a b | .op _ a b | .f2 _ a b => [a, b]
  | .call _ a | .f1 _ a => [a]
  | .ite c a b => [c, a, b]
def ExsAt (H : Hp) : List Ex → List V → Prop
  | [], [] => True
  | e :: es, v :: vs => ExAt H e v ∧ ExsAt H es vs
  | _, _ => False
theorem ExsAt.kt {H H' : Hp} (t : Kt H H') : ∀ {es : List Ex} {vs : List V}, ExsAt H es vs → ExsAt H' es vs
  | [], [], _ => trivial
  | _ :: _, _ :: _, ⟨a, b⟩ => ⟨a.kt t, b.kt t⟩
  | [], _ :: _, h => h.elim
  | _ :: _, [], h => h.elim
theorem w1_not {w : Str} (h : w ∈ w1s) : ¬ w ∈ (["num", "var"] : List Str) ∧ ¬ w ∈ (["let", "op", "each", "call"] : List Str) := by
  simp only [w1s, List.mem_cons, List.not_mem_nil, or_false] at h
  rcases h with rfl | rfl | rfl | rfl | rfl | rfl <;> exact ⟨by decide +kernel, by decide +kernel⟩
theorem w2_not {w : Str} (h : w ∈ w2s) : ¬ w ∈ (["num", "var"] : List Str) ∧ ¬ w ∈ (["let", "op", "each", "call"] : List Str) := by
  simp only [w2s, List.mem_cons, List.not_mem_nil, or_false] at h
  rcases h with rfl | rfl | rfl | rfl <;> exact ⟨by decide +kernel, by decide +kernel⟩
section
variable {P : Program} {w : World} {K : PySem.W.Frag} {mg : Str → Option Value} {base : Heap} {a : PAd}
theorem ifY {c A B : Prop} [Decidable c] (h : c) (q : A) : if c then A else B := by rw [if_pos h]; exact q
theorem ifN {c A B : Prop} [Decidable c] (h : ¬ c) (q : B) : if c then A else B := by rw [if_neg h]; exact q
theorem free_of {H : Hp} {p l : Addr} {o : HO} (hp : H p = none) (hl : (upd H p o) l = none) : H l = none := by
  by_cases e : l = p
  · rw [e]; exact hp
  · rw [upd_ne e] at hl; exact hl
def spParts : Sp := fun vs H Q _ => ∃ (v : V) (e : Ex), vs = [v] ∧ ExAt H e v ∧ e.wf ∧ ∀ (H' : Hp) (p : Addr) (us : List V), Same H H' → H p = none → H' p = some (.lst us) → ExsAt H' e.parts us → Q (.ref p) H'
theorem ok_parts_of (T : PTxt K mg a) : FnOk P w K mg base CX0 1 a.parts_of.1 a.parts_of.2 ["e"] spParts := by
  refine T.parts_of.F.ok sc_parts_of (fun vs H Q E h => ?_) (fun cdv A outer s H vs Q E hr h => ?_)
  · obtain ⟨_, _, rfl, _⟩ := h
    rfl
  obtain ⟨v, e, rfl, he, hw, q⟩ := h
  refine ⟨_, (pss_one (MX.ps_match (pe_ix ix_tup (pv 0) pe_int (fun _ _ => rfl)) (MX.pmc_tx (cs := ["num", "var"]) rfl (pss_one (ps_ret (pe_lst pa_nil))) (MX.pmc_tx (cs := ["let", "op", "each", "call"]) rfl (pss_one (ps_ret (pe_callTy call_list_of (by rfl) T.list (by decide +kernel) (pa_cons (pe_slice sl_tup (pv 0) (po_some pe_int) po_none) pa_nil)))) (MX.pmc_any (pss_one (ps_ret (pe_callTy call_list_of (by rfl) T.list (by decide +kernel) (pa_cons (pe_slice sl_tup (pv 0) (po_some pe_int) po_none) pa_nil))))))))), ?_⟩
  cases e with
  | num n =>
    obtain ⟨b, rfl, hb⟩ := he
    refine ⟨_, rfl, b, _, _, _, rfl, rfl, .inl (.inl hb), atI_nat (j := 0) rfl, _, rfl, ifY (by decide +kernel) ?_⟩
    exact ⟨(by show 0 ≤ sizeLine; decide), fun p hp => q _ p [] (same_new hp _) hp upd_same trivial⟩
  | var n =>
    obtain ⟨b, rfl, hb⟩ := he
    refine ⟨_, rfl, b, _, _, _, rfl, rfl, .inl (.inl hb), atI_nat (j := 0) rfl, _, rfl, ifY (by decide +kernel) ?_⟩
    exact ⟨(by show 0 ≤ sizeLine; decide), fun p hp => q _ p [] (same_new hp _) hp upd_same trivial⟩
  | bnd h x e1 e2 =>
    obtain ⟨b, u1, u2, rfl, hb, h1, h2⟩ := he
    refine ⟨_, rfl, b, _, _, _, rfl, rfl, .inl (.inl hb), atI_nat (j := 0) rfl, _, rfl, ifN (by cases h <;> decide +kernel) ⟨_, rfl, ifY (by cases h <;> decide +kernel) ?_⟩⟩
    refine ⟨_, rfl, _, rfl, b, _, rfl, .inl (.inl hb), (fun z => absurd z.1 (show ¬ (HT.sIx 4 0 (some 2) = 0) by decide)), fun p hp => ?_⟩
    refine ⟨p, [u1, u2], rfl, .inr (.inl (.inl upd_same)), fun l hl => ?_⟩
    have sm := (same_new hp (.tup [u1, u2])).trans (same_new hl (.lst [u1, u2]))
    exact q _ l [u1, u2] sm (free_of hp hl) upd_same ⟨h1.kt (Kt.of sm), h2.kt (Kt.of sm), trivial⟩
  | op x e1 e2 =>
    obtain ⟨b, u1, u2, rfl, hb, h1, h2⟩ := he
    refine ⟨_, rfl, b, _, _, _, rfl, rfl, .inl (.inl hb), atI_nat (j := 0) rfl, _, rfl, ifN (by decide +kernel) ⟨_, rfl, ifY (by decide +kernel) ?_⟩⟩
    refine ⟨_, rfl, _, rfl, b, _, rfl, .inl (.inl hb), (fun z => absurd z.1 (show ¬ (HT.sIx 4 0 (some 2) = 0) by decide)), fun p hp => ?_⟩
    refine ⟨p, [u1, u2], rfl, .inr (.inl (.inl upd_same)), fun l hl => ?_⟩
    have sm := (same_new hp (.tup [u1, u2])).trans (same_new hl (.lst [u1, u2]))
    exact q _ l [u1, u2] sm (free_of hp hl) upd_same ⟨h1.kt (Kt.of sm), h2.kt (Kt.of sm), trivial⟩
  | call x e1 =>
    obtain ⟨b, u1, rfl, hb, h1⟩ := he
    refine ⟨_, rfl, b, _, _, _, rfl, rfl, .inl (.inl hb), atI_nat (j := 0) rfl, _, rfl, ifN (by decide +kernel) ⟨_, rfl, ifY (by decide +kernel) ?_⟩⟩
    refine ⟨_, rfl, _, rfl, b, _, rfl, .inl (.inl hb), (fun z => absurd z.1 (show ¬ (HT.sIx 3 0 (some 2) = 0) by decide)), fun p hp => ?_⟩
    refine ⟨p, [u1], rfl, .inr (.inl (.inl upd_same)), fun l hl => ?_⟩
    have sm := (same_new hp (.tup [u1])).trans (same_new hl (.lst [u1]))
    exact q _ l [u1] sm (free_of hp hl) upd_same ⟨h1.kt (Kt.of sm), trivial⟩
  | f1 x e1 =>
    obtain ⟨b, u1, rfl, hb, h1⟩ := he
    obtain ⟨w1, w2⟩ := w1_not hw.1
    refine ⟨_, rfl, b, _, _, _, rfl, rfl, .inl (.inl hb), atI_nat (j := 0) rfl, _, rfl, ifN w1 ⟨_, rfl, ifN w2 ?_⟩⟩
    refine ⟨_, rfl, _, rfl, b, _, rfl, .inl (.inl hb), (fun z => absurd z.1 (show ¬ (HT.sIx 2 0 (some 1) = 0) by decide)), fun p hp => ?_⟩
    refine ⟨p, [u1], rfl, .inr (.inl (.inl upd_same)), fun l hl => ?_⟩
    have sm := (same_new hp (.tup [u1])).trans (same_new hl (.lst [u1]))
    exact q _ l [u1] sm (free_of hp hl) upd_same ⟨h1.kt (Kt.of sm), trivial⟩
  | f2 x e1 e2 =>
    obtain ⟨b, u1, u2, rfl, hb, h1, h2⟩ := he
    obtain ⟨w1, w2⟩ := w2_not hw.1
    refine ⟨_, rfl, b, _, _, _, rfl, rfl, .inl (.inl hb), atI_nat (j := 0) rfl, _, rfl, ifN w1 ⟨_, rfl, ifN w2 ?_⟩⟩
    refine ⟨_, rfl, _, rfl, b, _, rfl, .inl (.inl hb), (fun z => absurd z.1 (show ¬ (HT.sIx 3 0 (some 1) = 0) by decide)), fun p hp => ?_⟩
    refine ⟨p, [u1, u2], rfl, .inr (.inl (.inl upd_same)), fun l hl => ?_⟩
    have sm := (same_new hp (.tup [u1, u2])).trans (same_new hl (.lst [u1, u2]))
    exact q _ l [u1, u2] sm (free_of hp hl) upd_same ⟨h1.kt (Kt.of sm), h2.kt (Kt.of sm), trivial⟩
  | ite c e1 e2 =>
    obtain ⟨b, u0, u1, u2, rfl, hb, h0, h1, h2⟩ := he
    refine ⟨_, rfl, b, _, _, _, rfl, rfl, .inl (.inl hb), atI_nat (j := 0) rfl, _, rfl, ifN (by decide +kernel) ⟨_, rfl, ifN (by decide +kernel) ?_⟩⟩
    refine ⟨_, rfl, _, rfl, b, _, rfl, .inl (.inl hb), (fun z => absurd z.1 (show ¬ (HT.sIx 4 0 (some 1) = 0) by decide)), fun p hp => ?_⟩
    refine ⟨p, [u0, u1, u2], rfl, .inr (.inl (.inl upd_same)), fun l hl => ?_⟩
    have sm := (same_new hp (.tup [u0, u1, u2])).trans (same_new hl (.lst [u0, u1, u2]))
    exact q _ l [u0, u1, u2] sm (free_of hp hl) upd_same ⟨h0.kt (Kt.of sm), h1.kt (Kt.of sm), h2.kt (Kt.of sm), trivial⟩
end
end K2

namespace K2
open PySem PySem.Spec PyProof.Rows L2
/-! ### the way through an expression -/
abbrev Sp2 := Str × Ex
abbrev en (e : Ex) : Sp2 := ("enter", e)
abbrev bi (e : Ex) : Sp2 := ("bind", e)
abbrev le (e : Ex) : Sp2 := ("leave", e)
def SteAt (H : Hp) (s : Sp2) (v : V) : Prop := ∃ a u, v = .ref a ∧ H a = some (.tup [.str s.1, u]) ∧ ExAt H s.2 u
theorem SteAt.kt {H H' : Hp} (t : Kt H H') {s : Sp2} {v : V} : SteAt H s v → SteAt H' s v
  | ⟨a, u, e, h, x⟩ => ⟨a, u, e, t _ _ h, x.kt t⟩
def StesAt (H : Hp) : List Sp2 → List V → Prop
  | [], [] => True
  | e :: es, v :: vs => SteAt H e v ∧ StesAt H es vs
  | _, _ => False
theorem StesAt.kt {H H' : Hp} (t : Kt H H') : ∀ {es : List Sp2} {vs : List V}, StesAt H es vs → StesAt H' es vs
  | [], [], _ => trivial
  | _ :: _, _ :: _, ⟨a, b⟩ => ⟨a.kt t, b.kt t⟩
  | [], _ :: _, h => h.elim
  | _ :: _, [], h => h.elim
theorem StesAt.len {H : Hp} : ∀ {es : List Sp2} {vs : List V}, StesAt H es vs → vs.length = es.length
  | [], [], _ => rfl
  | _ :: fs, _ :: vs, ⟨_, b⟩ => by rw [List.length_cons, List.length_cons, b.len]
  | [], _ :: _, h => h.elim
  | _ :: _, [], h => h.elim
theorem StesAt.app {H : Hp} {fs : List Sp2} {us : List V} (h : StesAt H fs us) : ∀ {es : List Sp2} {vs : List V}, StesAt H es vs → StesAt H (es ++ fs) (vs ++ us)
  | [], [], _ => h
  | _ :: _, _ :: _, ⟨a, b⟩ => ⟨a, StesAt.app h b⟩
  | [], _ :: _, h => h.elim
  | _ :: _, [], h => h.elim
def Ex.binds : Ex → Bool
  | .bnd _ _ _ _ => true
  | _ => false
def Ex.inside (e : Ex) : List Sp2 := match e with
  | .bnd _ _ a b => [en a, bi e, en b, le e]
  | _ => e.parts.map en ++ [le e]
def Ex.lin : Ex → List Sp2
  | .num n => [le (.num n)]
  | .var x => [le (.var x)]
  | .bnd h x a b => a.lin ++ bi (.bnd h x a b) :: (b.lin ++ [le (.bnd h x a b)])
  | .op s a b => a.lin ++ (b.lin ++ [le (.op s a b)])
  | .call f a => a.lin ++ [le (.call f a)]
  | .f1 w a => a.lin ++ [le (.f1 w a)]
  | .f2 w a b => a.lin ++ (b.lin ++ [le (.f2 w a b)])
  | .ite c a b => c.lin ++ (a.lin ++ (b.lin ++ [le (.ite c a b)]))
def lin1 (s : Sp2) : List Sp2 := if s.1 = "enter" then s.2.lin else [s]
theorem lin_inside (e : Ex) : e.inside.flatMap lin1 = e.lin := by
  have n1 : ¬ (("bind" : Str) = "enter") := by decide +kernel
  have n2 : ¬ (("leave" : Str) = "enter") := by decide +kernel
  cases e <;> simp [Ex.inside, Ex.parts, Ex.lin, lin1, n1, n2]
theorem head_binds {H : Hp} {e : Ex} {v : V} (h : ExAt H e v) (hw : e.wf) : ∃ b w xs, v = .ref b ∧ H b = some (.tup (.str w :: xs)) ∧ inV (.str w) [.str "let", .str "each"] = e.binds := by
  cases e with
  | num _ => obtain ⟨a, e, h⟩ := h; exact ⟨a, _, _, e, h, (by show _ = false; decide +kernel)⟩
  | var _ => obtain ⟨a, e, h⟩ := h; exact ⟨a, _, _, e, h, (by show _ = false; decide +kernel)⟩
  | bnd z _ _ _ => obtain ⟨a, u, w, e, h, _⟩ := h; exact ⟨a, _, _, e, h, by cases z <;> (show _ = true; decide +kernel)⟩
  | op _ _ _ => obtain ⟨a, u, w, e, h, _⟩ := h; exact ⟨a, _, _, e, h, (by show _ = false; decide +kernel)⟩
  | call _ _ => obtain ⟨a, u, e, h, _⟩ := h; exact ⟨a, _, _, e, h, (by show _ = false; decide +kernel)⟩
  | ite _ _ _ => obtain ⟨a, c, u, w, e, h, _⟩ := h; exact ⟨a, _, _, e, h, (by show _ = false; decide +kernel)⟩
  | f1 w _ =>
    obtain ⟨a, u, e, h, _⟩ := h
    refine ⟨a, _, _, e, h, ?_⟩
    have := hw.1
    simp only [w1s, List.mem_cons, List.not_mem_nil, or_false] at this
    rcases this with rfl | rfl | rfl | rfl | rfl | rfl <;> (show _ = false; decide +kernel)
  | f2 w _ _ =>
    obtain ⟨a, u, y, e, h, _⟩ := h
    refine ⟨a, _, _, e, h, ?_⟩
    have := hw.1
    simp only [w2s, List.mem_cons, List.not_mem_nil, or_false] at this
    rcases this with rfl | rfl | rfl | rfl <;> (show _ = false; decide +kernel)
theorem ExsAt.get {H : Hp} : ∀ {es : List Ex} {vs : List V}, ExsAt H es vs → ∀ {i : Nat} {v : V}, vs[i]? = some v → ∃ e, es[i]? = some e ∧ ExAt H e v
  | [], [], _, _, _, e => by simp at e
  | f :: _, v :: _, ⟨a, _⟩, 0, _, e => by
    simp at e
    exact ⟨f, rfl, by rw [← e]; exact a⟩
  | _ :: _, _ :: _, ⟨_, b⟩, i + 1, _, e => b.get (i := i) (by simpa using e)
  | [], _ :: _, h, _, _, _ => h.elim
  | _ :: _, [], h, _, _, _ => h.elim
theorem ExsAt.len {H : Hp} : ∀ {es : List Ex} {vs : List V}, ExsAt H es vs → vs.length = es.length
  | [], [], _ => rfl
  | _ :: fs, _ :: vs, ⟨_, b⟩ => by rw [List.length_cons, List.length_cons, b.len]
  | [], _ :: _, h => h.elim
  | _ :: _, [], h => h.elim
theorem parts_len (e : Ex) : e.parts.length ≤ 3 := by cases e <;> simp [Ex.parts]
section
variable {P : Program} {w : World} {K : PySem.W.Frag} {mg : Str → Option Value} {base : Heap} {a : PAd}
def spInside : Sp := fun vs H Q _ => ∃ (v : V) (e : Ex), vs = [v] ∧ ExAt H e v ∧ e.wf ∧ ∀ (H' : Hp) (p : Addr) (us : List V), Same H H' → H p = none → H' p = some (.lst us) → StesAt H' e.inside us → Q (.ref p) H'
theorem ok_steps_inside (T : PTxt K mg a) : FnOk P w K mg base CX0 2 a.steps_inside.1 a.steps_inside.2 ["e"] spInside := by
  refine T.steps_inside.F.ok sc_steps_inside (fun vs H Q E h => ?_) (fun cdv A outer s H vs Q E hr h => ?_)
  · obtain ⟨_, _, rfl, _⟩ := h
    rfl
  obtain ⟨v, e, rfl, he, hw, q⟩ := h
  have nd := sc_steps_inside.nd
  have G_parts_of := ok_parts_of (P := P) (w := w) (base := base) T
  refine ⟨_, (pss_cons (ps_setLc (i := 1) (own := [("part", 2)]) (g := gName 2) (tt := tYes) rfl nd rfl rfl (sw_true rfl rfl rfl (by decide +kernel)) (pi_list (pe_call G_parts_of (hr.mono (by omega)) rfl T.parts_of.g T.parts_of.F.kp T.parts_of.b .nil pass0 (pa_cons (pv 0) pa_nil))) (blkOk_by (N := ["e", "inside", "part"]) (sc := defScope s_steps_inside) (by decide +kernel)) (fun _ _ _ _ _ => (pg_name (i := 2) nd rfl (Or.inl rfl))) (fun _ _ _ _ _ => pts_nil) (fun _ _ _ _ _ => (pe_tup (pa_cons pe_str (pa_cons (pv 2) pa_nil)))))
  (pss_cons (ps_if (pt_cmpR op_in_seq (pe_ix ix_tup (pv 0) pe_int (fun _ _ => rfl)) (pe_glob (v := .ref a.BIND) rfl T.gBIND rfl) (by rfl)) (pss_one (ps_expr (pe_bm PySem.F.plainAttrs_list PySem.F.slot_list_insert PySem.F.type_list_insert mt_insert (pv 1) (pa_cons pe_int (pa_cons (pe_tup (pa_cons pe_str (pa_cons (pv 0) pa_nil))) pa_nil))))) pss_nil)
  (pss_cons (ps_expr (pe_bm PySem.F.plainAttrs_list PySem.F.slot_list_append PySem.F.type_list_append mt_append (pv 1) (pa_cons (pe_tup (pa_cons pe_str (pa_cons (pv 0) pa_nil))) pa_nil)))
  (pss_one (ps_ret (pv 1)))))), ?_⟩
  refine ⟨_, rfl, v, e, rfl, he, hw, fun H1 p us s1 hp0 hp hus => ?_⟩
  have he1 := he.kt (Kt.of s1)
  have ul := hus.len
  have pl := parts_len e
  refine ⟨p, rfl, ⟨_, SqL.of hp⟩, fun D hD => lc_list (K := K) (a := p) (xs := us) (fun i H2 => ∃ acc : List V, H2 D = some (.lst acc) ∧ Same H1 H2 ∧ StesAt H2 ((e.parts.take i).map en) acc) ⟨[], upd_same, same_new hD _, trivial⟩ (fun i H2 _ h => ?_) ?_ ?_⟩
  · obtain ⟨_, _, k, _⟩ := h
    exact SqL.of (k _ _ hp)
  · rintro i y H2 hi ⟨acc, hacc, sm, hst⟩
    obtain ⟨f, hf, hfa⟩ := hus.get hi
    have i2 : i < us.length := (List.getElem?_eq_some_iff.mp hi).1
    have al := hst.len
    rw [List.length_map, List.length_take] at al
    refine ⟨rfl, _, rfl, (by show 2 ≤ sizeLine; decide), fun t ht => ?_⟩
    have s3 := same_new ht (.tup [.str "enter", y])
    have hacc3 := s3 _ _ hacc
    have kt4 : Kt (upd H2 t (.tup [.str "enter", y])) (upd (upd H2 t (.tup [.str "enter", y])) D (.lst (acc ++ [.ref t]))) := fun b xs e => by
      rw [upd_ne (fun z => by rw [z, hacc3] at e; cases e)]; exact e
    refine ⟨acc, hacc3, small1000 (by omega), acc ++ [.ref t], upd_same, fun b o e => ?_, ?_⟩
    · rw [upd_ne (fun z => by rw [z, hD] at e; cases e)]
      exact s3 _ _ (sm _ _ e)
    · rw [List.take_succ, hf, List.map_append]
      exact StesAt.app (fs := [en f]) (us := [.ref t]) ⟨⟨t, y, rfl, kt4 _ _ upd_same, ((hfa.kt (Kt.of sm)).kt (Kt.of s3)).kt kt4⟩, trivial⟩ ((hst.kt (Kt.of s3)).kt kt4)
  · rintro H2 ⟨acc, hacc, sm, hst⟩
    rw [ul, List.take_length] at hst
    have he2 := he1.kt (Kt.of sm)
    have al := hst.len
    rw [List.length_map] at al
    obtain ⟨b, hw0, xs, ev, hb, hin⟩ := head_binds he2 hw
    have fin : ∀ (H3 : Hp) (acc3 : List V), H3 D = some (.lst acc3) → acc3.length ≤ 4 → Same H1 H3 → StesAt H3 (e.inside.dropLast) acc3 → e.inside = e.inside.dropLast ++ [le e] → ∀ t, H3 t = none → Q (.ref D) (upd (upd H3 t (.tup [.str "leave", v])) D (.lst (acc3 ++ [.ref t]))) := fun H3 acc3 h3 l3 s3 st3 ei t ht => by
      have s4 := same_new ht (.tup [.str "leave", v])
      have h4 := s4 _ _ h3
      have kt5 : Kt (upd H3 t (.tup [.str "leave", v])) (upd (upd H3 t (.tup [.str "leave", v])) D (.lst (acc3 ++ [.ref t]))) := fun b xs e => by
        rw [upd_ne (fun z => by rw [z, h4] at e; cases e)]; exact e
      refine q _ D _ (fun b o e => ?_) ?_ upd_same ?_
      · have e1 := s1 _ _ e
        rw [upd_ne (fun z => by rw [z, hD] at e1; cases e1)]
        exact s4 _ _ (s3 _ _ e1)
      · cases e : H D with
        | none => rfl
        | some o => have := s1 _ _ e; rw [hD] at this; cases this
      · rw [ei]
        exact StesAt.app (fs := [le e]) (us := [.ref t]) ⟨⟨t, v, rfl, kt5 _ _ upd_same, ((he1.kt (Kt.of s3)).kt (Kt.of s4)).kt kt5⟩, trivial⟩ ((st3.kt (Kt.of s4)).kt kt5)
    refine ⟨_, rfl, b, _, _, _, ev, rfl, .inl (.inl hb), atI_nat (j := 0) rfl, ?_⟩
    refine ⟨_, _, rfl, .inr (T.bind _), rfl, rfl, _, rfl, ?_⟩
    have hin' : (if false = true then !inV (.str hw0) [.str "let", .str "each"] else inV (.str hw0) [.str "let", .str "each"]) = e.binds := by rw [if_neg (by decide)]; exact hin
    cases he' : e.binds with
    | false =>
      refine ifF (hin'.trans he') ?_
      have ei : e.inside = e.parts.map en ++ [le e] := by
        cases e <;> first | rfl | cases he'
      have ed : e.inside.dropLast = e.parts.map en := by rw [ei, List.dropLast_concat]
      refine ⟨_, rfl, .inl ⟨rfl, _, SqL.of hacc⟩, _, rfl, (by show 2 ≤ sizeLine; decide), fun t ht => ?_⟩
      refine ⟨D, _, _, rfl, rfl, (same_new ht _) _ _ hacc, small1000 (by omega), ?_⟩
      exact ⟨_, rfl, fin H2 acc hacc (by omega) sm (by rw [ed]; exact hst) (by rw [ed, ei]) t ht⟩
    | true =>
      refine ifT (hin'.trans he') ?_
      cases e with
      | bnd hb0 x ea eb =>
        match acc, hst with
        | [x1, x2], ⟨g1, g2, _⟩ =>
          refine ⟨_, rfl, .inl ⟨rfl, _, SqL.of hacc⟩, _, rfl, (by show 2 ≤ sizeLine; decide), fun t ht => ?_⟩
          have s4 := same_new ht (.tup [.str "bind", v])
          have h4 := s4 _ _ hacc
          refine ⟨D, _, _, _, rfl, rfl, h4, (by show 2 < sizeLine; decide), by decide, by decide, ?_⟩
          have kt5 : Kt (upd H2 t (.tup [.str "bind", v])) (upd (upd H2 t (.tup [.str "bind", v])) D (.lst [x1, .ref t, x2])) := fun b xs e => by
            rw [upd_ne (fun z => by rw [z, h4] at e; cases e)]; exact e
          have kt6 := (Kt.of s4).trans kt5
          refine ⟨_, rfl, .inl ⟨rfl, _, SqL.of upd_same⟩, _, rfl, (by show 2 ≤ sizeLine; decide), fun t2 ht2 => ?_⟩
          refine ⟨D, _, _, rfl, rfl, (same_new ht2 _) _ _ upd_same, (by show 3 < sizeLine; decide), ?_⟩
          refine ⟨_, rfl, fin (upd (upd H2 t (.tup [.str "bind", v])) D (.lst [x1, .ref t, x2])) [x1, .ref t, x2] upd_same (by show 3 ≤ 4; decide) (fun b o e => ?_) ⟨g1.kt kt6, ⟨t, v, rfl, kt5 _ _ upd_same, he2.kt kt6⟩, g2.kt kt6, trivial⟩ rfl t2 ht2⟩
          rw [upd_ne (fun z => by rw [z, hD] at e; cases e)]
          exact s4 _ _ (sm _ _ e)
      | _ => cases he'
end
end K2

namespace K2
open PySem PySem.Spec PyProof.Rows L2
def Ex.mw : Ex → Nat
  | .num _ | .var _ => 2
  | .bnd _ _ a b => a.mw + b.mw + 3
  | .op _ a b | .f2 _ a b => a.mw + b.mw + 2
  | .call _ a | .f1 _ a => a.mw + 2
  | .ite c a b => c.mw + a.mw + b.mw + 2
def sw (s : Sp2) : Nat := if s.1 = "enter" then s.2.mw else 1
def sws (ss : List Sp2) : Nat := (ss.map sw).foldr (· + ·) 0
theorem sws_cons (s : Sp2) (ss : List Sp2) : sws (s :: ss) = sw s + sws ss := rfl
theorem sws_app (a b : List Sp2) : sws (a ++ b) = sws a + sws b := by
  induction a with
  | nil => simp [sws]
  | cons x r ih => rw [List.cons_append, sws_cons, sws_cons, ih]; omega
theorem bl_not : ¬ (("bind" : Str) = "enter") ∧ ¬ (("leave" : Str) = "enter") := ⟨by decide +kernel, by decide +kernel⟩
theorem sws_inside (e : Ex) : sws e.inside + 1 = e.mw := by
  obtain ⟨n1, n2⟩ := bl_not
  cases e <;> simp [Ex.inside, Ex.parts, Ex.mw, sws, sw, n1, n2] <;> omega
theorem mw_sz : ∀ e : Ex, e.mw ≤ 3 * e.sz
  | .num _ | .var _ => by show 2 ≤ 3; decide
  | .bnd _ _ a b => by have := mw_sz a; have := mw_sz b; simp only [Ex.mw, Ex.sz]; omega
  | .op _ a b => by have := mw_sz a; have := mw_sz b; simp only [Ex.mw, Ex.sz]; omega
  | .f2 _ a b => by have := mw_sz a; have := mw_sz b; simp only [Ex.mw, Ex.sz]; omega
  | .call _ a => by have := mw_sz a; simp only [Ex.mw, Ex.sz]; omega
  | .f1 _ a => by have := mw_sz a; simp only [Ex.mw, Ex.sz]; omega
  | .ite c a b => by have := mw_sz c; have := mw_sz a; have := mw_sz b; simp only [Ex.mw, Ex.sz]; omega
theorem mw_pos : ∀ e : Ex, 2 ≤ e.mw := fun e => by cases e <;> simp only [Ex.mw] <;> omega
theorem len_sws (ss : List Sp2) : ss.length ≤ sws ss := by
  induction ss with
  | nil => exact Nat.le_refl _
  | cons x r ih =>
    rw [List.length_cons, sws_cons]
    have : 1 ≤ sw x := by
      unfold sw
      split
      · have := mw_pos x.2; omega
      · omega
    omega
theorem lin_len (e : Ex) : e.lin.length + 1 ≤ e.mw := by
  induction e with
  | num _ => exact Nat.le_refl 2
  | var _ => exact Nat.le_refl 2
  | bnd _ _ a b iha ihb => simp only [Ex.lin, Ex.mw, List.length_append, List.length_cons, List.length_nil]; omega
  | op _ a b iha ihb => simp only [Ex.lin, Ex.mw, List.length_append, List.length_cons, List.length_nil]; omega
  | call _ a iha => simp only [Ex.lin, Ex.mw, List.length_append, List.length_cons, List.length_nil]; omega
  | f1 _ a iha => simp only [Ex.lin, Ex.mw, List.length_append, List.length_cons, List.length_nil]; omega
  | f2 _ a b iha ihb => simp only [Ex.lin, Ex.mw, List.length_append, List.length_cons, List.length_nil]; omega
  | ite c a b ihc iha ihb => simp only [Ex.lin, Ex.mw, List.length_append, List.length_cons, List.length_nil]; omega
def wfs (ss : List Sp2) : Prop := ∀ s ∈ ss, s.2.wf
theorem wf_inside {e : Ex} (h : e.wf) : wfs e.inside := by
  intro s hs
  cases e <;> simp [Ex.inside, Ex.parts] at hs <;> first
    | (rcases hs with rfl | rfl | rfl | rfl <;> first | exact h | exact h.1 | exact h.2.1 | exact h.2.2 | exact h.2)
    | (rcases hs with rfl | rfl | rfl <;> first | exact h | exact h.2.1 | exact h.2.2 | exact h.1 | exact h.2)
    | (rcases hs with rfl | rfl <;> first | exact h | exact h.1 | exact h.2)
    | (rcases hs with rfl; exact h)
section
variable {P : Program} {w : World} {K : PySem.W.Frag} {mg : Str → Option Value} {base : Heap} {a : PAd}
/-- the values that a pass over the way meets: wf all -/
def spSteps : Sp := fun vs H Q _ => ∃ (v : V) (e : Ex), vs = [v] ∧ ExAt H e v ∧ e.wf ∧ e.sz ≤ 1000000 ∧ ∀ (H' : Hp) (p : Addr) (us : List V), Same H H' → H p = none → H' p = some (.lst us) → StesAt H' e.lin us → Q (.ref p) H'
theorem ok_steps (T : PTxt K mg a) : FnOk P w K mg base CX0 3 a.steps.1 a.steps.2 ["e"] spSteps := by
  refine T.steps.F.ok sc_steps (fun vs H Q E h => ?_) (fun cdv A outer s H vs Q E hr h => ?_)
  · obtain ⟨_, _, rfl, _⟩ := h
    rfl
  obtain ⟨v, e, rfl, he, hw, hsz, q⟩ := h
  have nd := sc_steps.nd
  have G_steps_inside := ok_steps_inside (P := P) (w := w) (base := base) T
  have mb := mw_sz e
  have big : ∀ n, n ≤ 3000010 → n < sizeLine := fun n h => Nat.lt_of_le_of_lt h (by decide)
  refine ⟨_, (pss_cons (ps_set (i := 1) nd rfl (Or.inl rfl) (pe_lst pa_nil))
  (pss_cons (ps_set (i := 2) nd rfl (Or.inl rfl) (pe_lst (pa_cons (pe_tup (pa_cons pe_str (pa_cons (pv 0) pa_nil))) pa_nil)))
  (pss_cons (ps_while PassesOwn.never (pt_truth (pv 2) (by intro _; rfl)) (pss_cons (ps_asg (pe_bm0 PySem.F.plainAttrs_list PySem.F.slot_list_pop PySem.F.type_list_pop mt_pop (pv 2)) (pg_tup rfl (pgs_cons (pg_name (i := 3) nd rfl (Or.inl rfl)) (pgs_cons (pg_name (i := 4) nd rfl (Or.inl rfl)) pgs_nil))))
  (pss_one (ps_if (pt_cmpR op_eq (pv 3) pe_str (nomark _)) (pss_one (ps_expr (pe_bm PySem.F.plainAttrs_list PySem.F.slot_list_extend PySem.F.type_list_extend mt_extend (pv 2) (pa_cons (pe_revL (pe_call G_steps_inside (hr.mono (by omega)) rfl T.steps_inside.g T.steps_inside.F.kp T.steps_inside.b .nil pass0 (pa_cons (pv 4) pa_nil))) pa_nil)))) (pss_one (ps_expr (pe_bm PySem.F.plainAttrs_list PySem.F.slot_list_append PySem.F.type_list_append mt_append (pv 1) (pa_cons (pe_tup (pa_cons (pv 3) (pa_cons (pv 4) pa_nil))) pa_nil))))))))
  (pss_one (ps_ret (pv 1)))))), ?_⟩
  refine ⟨(by show 0 ≤ sizeLine; decide), fun wy hwy => ?_⟩
  have s1 := same_new hwy (.lst [])
  refine ⟨_, rfl, (by show 2 ≤ sizeLine; decide), fun t ht => ⟨(by show 1 ≤ sizeLine; decide), fun wt hwt => ?_⟩⟩
  have s2 := same_new ht (.tup [.str "enter", v])
  have s3 := same_new hwt (.lst [.ref t])
  have s03 := (s1.trans s2).trans s3
  have y3 := (s2.trans s3) _ _ (upd_same (a := wy))
  have ne1 : wy ≠ wt := ne_of_none (s2 _ _ (upd_same (a := wy))) hwt
  have tt := s3 _ _ (upd_same (a := t))
  have wy0 : H wy = none := hwy
  have wt0 : H wt = none := free_of hwy (free_of ht hwt)
  refine ⟨fun k σ H' => ∃ (ws done : List Sp2) (r ds : List V) (x3 x4 : Option V), σ = [some v, some (.ref wy), some (.ref wt), x3, x4] ∧ k = sws ws ∧ H' wt = some (.lst r.reverse) ∧ H' wy = some (.lst ds) ∧ StesAt H' ws r ∧ StesAt H' done ds ∧ done ++ ws.flatMap lin1 = e.lin ∧ wfs ws ∧ done.length + sws ws ≤ e.mw ∧ (∀ b o, b ≠ wy → b ≠ wt → H b = some o → H' b = some o),
    ⟨sws [en e], [en e], [], [.ref t], [], none, none, rfl, rfl, upd_same, y3, ⟨⟨t, v, rfl, tt, he.kt (Kt.of s03)⟩, trivial⟩, trivial, (by show lin1 (en e) ++ [] = e.lin; rw [List.append_nil]; rfl), (fun s hs => by rw [List.mem_singleton.mp hs]; exact hw), (by show 0 + (e.mw + 0) ≤ e.mw; omega), fun b o _ _ e => s03 _ _ e⟩, ?_⟩
  rintro k σ H' ⟨ws, done, r, ds, x3, x4, rfl, rfl, hwt', hwy', hst, hdn, hlin, hwf, hbd, hold⟩
  have rl := hst.len
  have dl := hdn.len
  have wl := len_sws ws
  refine ⟨_, rfl, _, .inl ⟨_, SqL.of hwt', rfl⟩, ?_⟩
  match ws, r, hst with
  | [], [], _ =>
    refine ifF rfl ?_
    have hlin' : done = e.lin := by simpa using hlin
    rw [hlin'] at hdn
    refine ⟨_, rfl, q H' wy ds (fun b o e => hold b o (fun z => ?_) (fun z => ?_) e) wy0 hwy' hdn⟩
    · rw [z, wy0] at e; cases e
    · rw [z, wt0] at e; cases e
  | s0 :: ws, y :: r, ⟨hs0, hst⟩ =>
    rw [List.reverse_cons] at hwt'
    rw [sws_cons] at hbd
    simp only [List.length_cons] at rl wl
    refine ifT (by rw [List.reverse_cons]; cases r.reverse <;> rfl) ?_
    refine ⟨fun σ2 H2 => ∃ (ws2 done2 : List Sp2) (r2 ds2 : List V) (x3 x4 : Option V), σ2 = [some v, some (.ref wy), some (.ref wt), x3, x4] ∧ sws ws2 < sws (s0 :: ws) ∧ H2 wt = some (.lst r2.reverse) ∧ H2 wy = some (.lst ds2) ∧ StesAt H2 ws2 r2 ∧ StesAt H2 done2 ds2 ∧ done2 ++ ws2.flatMap lin1 = e.lin ∧ wfs ws2 ∧ done2.length + sws ws2 ≤ e.mw ∧ (∀ b o, b ≠ wy → b ≠ wt → H b = some o → H2 b = some o), ?_, ?_⟩
    · rintro σ2 H2 ⟨ws2, done2, r2, ds2, x3, x4, e1, lt, rest⟩
      exact ⟨sws ws2, lt, ws2, done2, r2, ds2, x3, x4, e1, rfl, rest⟩
    obtain ⟨a0, u, rfl, ha, hx⟩ := hs0
    have hw0 : s0.2.wf := hwf s0 (List.mem_cons_self)
    have hwr : wfs ws := fun s hs => hwf s (List.mem_cons_of_mem _ hs)
    refine ⟨_, rfl, .inl ⟨rfl, _, SqL.of hwt'⟩, wt, _, .ref a0, rfl, rfl, hwt', ?_, ?_⟩
    · rw [List.length_append]; simp
    rw [List.dropLast_concat]
    have kt2 : Kt H' (upd H' wt (.lst r.reverse)) := fun b xs e => by rw [upd_ne (fun z => by rw [z, hwt'] at e; cases e)]; exact e
    have wy2 : (upd H' wt (.lst r.reverse)) wy = some (.lst ds) := by rw [upd_ne ne1]; exact hwy'
    have wt2 : (upd H' wt (.lst r.reverse)) wt = some (.lst r.reverse) := upd_same
    have hold2 : ∀ b o, b ≠ wy → b ≠ wt → H b = some o → (upd H' wt (.lst r.reverse)) b = some o := fun b o n1 n2 e => by rw [upd_ne n2]; exact hold b o n1 n2 e
    have hst2 := hst.kt kt2
    have hdn2 := hdn.kt kt2
    have hx2 := hx.kt kt2
    have ha2 := kt2 _ _ ha
    generalize upd H' wt (.lst r.reverse) = H2 at wy2 wt2 hold2 hst2 hdn2 hx2 ha2
    refine ⟨a0, _, rfl, .inl (.inl ha2), rfl, _, _, rfl, _, _, rfl, rfl, ?_⟩
    refine ⟨_, rfl, rfl, _, rfl, ?_⟩
    have lin0 : done ++ (lin1 s0 ++ ws.flatMap lin1) = e.lin := hlin
    refine ite2 (fun c => ?_) (fun c => ?_)
    · have c' : s0.1 = "enter" := V.str.inj (of_decide_eq_true c)
      have sw0 : sw s0 = s0.2.mw := if_pos c'
      have l0 : lin1 s0 = s0.2.lin := if_pos c'
      have si := sws_inside s0.2
      have li := len_sws s0.2.inside
      have wl2 := len_sws ws
      refine ⟨_, rfl, .inl ⟨rfl, _, SqL.of wt2⟩, _, rfl, u, s0.2, rfl, hx2, hw0, fun H3 p us s3 hp0 hp hus => ?_⟩
      refine ⟨p, us, rfl, SqL.of hp, fun rv hrv => ?_⟩
      have s4 := s3.trans (same_new hrv (.lst us.reverse))
      have wt4 := s4 _ _ wt2
      have ul := hus.len
      refine ⟨wt, rv, _, _, rfl, rfl, wt4, upd_same, ?_, ?_⟩
      · rw [List.length_reverse, List.length_reverse]
        exact Nat.le_of_lt (big _ (by omega))
      have kt5 : Kt H2 (upd (upd H3 rv (.lst us.reverse)) wt (.lst (r.reverse ++ us.reverse))) := fun b xs e => by
        rw [upd_ne (fun z => by rw [z, wt2] at e; cases e)]; exact s4 _ _ e
      have kt6 : Kt H3 (upd (upd H3 rv (.lst us.reverse)) wt (.lst (r.reverse ++ us.reverse))) := fun b xs e => by
        rw [upd_ne (fun z => by rw [z, s3 _ _ wt2] at e; cases e)]; exact (same_new hrv (.lst us.reverse)) _ _ e
      refine ⟨s0.2.inside ++ ws, done, us ++ r, ds, _, _, rfl, ?_, ?_, ?_, StesAt.app (hst2.kt kt5) (hus.kt kt6), hdn2.kt kt5, ?_, ?_, ?_, fun b o n1 n2 e => ?_⟩
      · rw [sws_app, sws_cons, sw0]; omega
      · rw [upd_same, List.reverse_append]
      · rw [upd_ne ne1]; exact s4 _ _ wy2
      · rw [List.flatMap_append, lin_inside, ← l0]; exact lin0
      · intro s hs
        rcases List.mem_append.mp hs with hs | hs
        · exact wf_inside hw0 s hs
        · exact hwr s hs
      · rw [sws_app]; omega
      · rw [upd_ne n2]; exact s4 _ _ (hold2 b o n1 n2 e)
    · have c' : ¬ s0.1 = "enter" := fun z => c (by rw [z]; exact decide_eq_true rfl)
      have sw0 : sw s0 = 1 := if_neg c'
      have l0 : lin1 s0 = [s0] := if_neg c'
      refine ⟨_, rfl, .inl ⟨rfl, _, SqL.of wy2⟩, _, rfl, _, rfl, (by show 2 ≤ sizeLine; decide), fun t2 ht2 => ?_⟩
      have s4 := same_new ht2 (.tup [.str s0.1, u])
      have wy4 := s4 _ _ wy2
      refine ⟨wy, _, _, rfl, rfl, wy4, big _ (by omega), ?_⟩
      have kt5 : Kt (upd H2 t2 (.tup [.str s0.1, u])) (upd (upd H2 t2 (.tup [.str s0.1, u])) wy (.lst (ds ++ [.ref t2]))) := fun b xs e => by
        rw [upd_ne (fun z => by rw [z, wy4] at e; cases e)]; exact e
      have kt6 := (Kt.of s4).trans kt5
      refine ⟨ws, done ++ [s0], r, ds ++ [.ref t2], _, _, rfl, ?_, ?_, upd_same, hst2.kt kt6, StesAt.app (fs := [s0]) (us := [.ref t2]) ⟨⟨t2, u, rfl, kt5 _ _ upd_same, hx2.kt kt6⟩, trivial⟩ (hdn2.kt kt6), ?_, hwr, ?_, fun b o n1 n2 e => ?_⟩
      · rw [sws_cons, sw0]; omega
      · rw [upd_ne ne1.symm]; exact s4 _ _ wt2
      · rw [List.append_assoc, ← l0]; exact lin0
      · rw [List.length_append]; show done.length + 1 + _ ≤ _; omega
      · rw [upd_ne n1]; exact s4 _ _ (hold2 b o n1 n2 e)
end
end K2

namespace K2
open PySem PySem.Spec PyProof.Rows L2
/-! ### names that are free -/
def Ex.fv : Ex → List Str
  | .num _ => []
  | .var x => [x]
  | .bnd _ x a b => a.fv ++ b.fv.filter fun y => decide (¬ y = x)
  | .op _ a b | .f2 _ a b => a.fv ++ b.fv
  | .call _ a | .f1 _ a => a.fv
  | .ite c a b => c.fv ++ (a.fv ++ b.fv)
abbrev Bd := Str → Int
def stp (s : Sp2) (st : List Str × Bd) : List Str × Bd := match s.2 with
  | .bnd _ x _ _ => (st.1, fun y => if y = x then (if s.1 = "bind" then st.2 y + 1 else st.2 y - 1) else st.2 y)
  | .var x => if st.2 x = 0 then (TX.adds st.1 x, st.2) else st
  | _ => st
def run (ss : List Sp2) (st : List Str × Bd) : List Str × Bd := ss.foldl (fun st s => stp s st) st
theorem run_cons (s : Sp2) (ss : List Sp2) (st : List Str × Bd) : run (s :: ss) st = run ss (stp s st) := rfl
theorem run_app (a b : List Sp2) (st : List Str × Bd) : run (a ++ b) st = run b (run a st) := by unfold run; rw [List.foldl_append]
def fresh0 (B : Bd) (xs : List Str) : List Str := xs.filter fun x => decide (B x = 0)
theorem fresh0_app (B : Bd) (a b : List Str) : fresh0 B (a ++ b) = fresh0 B a ++ fresh0 B b := List.filter_append ..
theorem le_not_bind : ¬ (("leave" : Str) = "bind") := by decide +kernel
theorem stp_bi (h : Bool) (x : Str) (a b : Ex) (st : List Str × Bd) : stp (bi (.bnd h x a b)) st = (st.1, fun y => if y = x then st.2 y + 1 else st.2 y) := by
  show (st.1, _) = (st.1, _)
  refine congrArg (Prod.mk st.1) ?_
  funext y
  by_cases c : y = x <;> simp [c]
theorem stp_le (h : Bool) (x : Str) (a b : Ex) (st : List Str × Bd) : stp (le (.bnd h x a b)) st = (st.1, fun y => if y = x then st.2 y - 1 else st.2 y) := by
  show (st.1, _) = (st.1, _)
  refine congrArg (Prod.mk st.1) ?_
  funext y
  by_cases c : y = x <;> simp [c, le_not_bind]
theorem run_lin : ∀ (e : Ex) (L : List Str) (B : Bd), (∀ y, 0 ≤ B y) → run e.lin (L, B) = ((fresh0 B e.fv).foldl TX.adds L, B)
  | .num _, L, B, _ => rfl
  | .var x, L, B, _ => by
    show (if B x = 0 then (TX.adds L x, B) else (L, B)) = _
    by_cases c : B x = 0
    · rw [if_pos c]; simp [Ex.fv, fresh0, c]
    · rw [if_neg c]; simp [Ex.fv, fresh0, c]
  | .bnd h x a b, L, B, n => by
    have e1 : stp (bi (.bnd h x a b)) ((fresh0 B a.fv).foldl TX.adds L, B) = ((fresh0 B a.fv).foldl TX.adds L, fun y => if y = x then B y + 1 else B y) := by
      rw [stp_bi]
    have n2 : ∀ y, 0 ≤ (fun y => if y = x then B y + 1 else B y) y := fun y => by
      have := n y
      show 0 ≤ if y = x then B y + 1 else B y
      split <;> omega
    have e2 : fresh0 (fun y => if y = x then B y + 1 else B y) b.fv = fresh0 B (b.fv.filter fun y => decide (¬ y = x)) := by
      unfold fresh0
      rw [List.filter_filter]
      refine List.filter_congr fun y _ => ?_
      have := n y
      by_cases c : y = x
      · have h1 : ¬ (B y + 1 = 0) := by omega
        simp [c] at h1 ⊢
        exact h1
      · simp [c]
    have e3 : ∀ M : List Str, stp (le (.bnd h x a b)) (M, fun y => if y = x then B y + 1 else B y) = (M, B) := fun M => by
      rw [stp_le]
      congr 1
      funext y
      by_cases c : y = x
      · simp only [c, if_true]; omega
      · simp only [c, if_false]
    show run (a.lin ++ bi (.bnd h x a b) :: (b.lin ++ [le (.bnd h x a b)])) (L, B) = _
    rw [run_app, run_lin a L B n, run_cons, e1, run_app, run_lin b _ _ n2, e2, run_cons, e3]
    show (_, B) = _
    simp only [Ex.fv]
    rw [fresh0_app, List.foldl_append]
  | .op s a b, L, B, n => by
    show run (a.lin ++ (b.lin ++ [le (.op s a b)])) (L, B) = _
    rw [run_app, run_lin a L B n, run_app, run_lin b _ _ n]
    simp only [Ex.fv]
    rw [fresh0_app, List.foldl_append]
    rfl
  | .f2 s a b, L, B, n => by
    show run (a.lin ++ (b.lin ++ [le (.f2 s a b)])) (L, B) = _
    rw [run_app, run_lin a L B n, run_app, run_lin b _ _ n]
    simp only [Ex.fv]
    rw [fresh0_app, List.foldl_append]
    rfl
  | .call s a, L, B, n => by
    show run (a.lin ++ [le (.call s a)]) (L, B) = _
    rw [run_app, run_lin a L B n]
    rfl
  | .f1 s a, L, B, n => by
    show run (a.lin ++ [le (.f1 s a)]) (L, B) = _
    rw [run_app, run_lin a L B n]
    rfl
  | .ite c a b, L, B, n => by
    show run (c.lin ++ (a.lin ++ (b.lin ++ [le (.ite c a b)]))) (L, B) = _
    rw [run_app, run_lin c L B n, run_app, run_lin a _ _ n, run_app, run_lin b _ _ n]
    simp only [Ex.fv]
    rw [fresh0_app, fresh0_app, List.foldl_append, List.foldl_append]
    rfl
theorem run_free (e : Ex) : (run e.lin ([], fun _ => 0)).1 = TX.met e.fv := by
  rw [run_lin e [] _ fun _ => Int.le_refl _]
  show (fresh0 (fun _ => 0) e.fv).foldl TX.adds [] = _
  have : fresh0 (fun _ => 0) e.fv = e.fv := by
    unfold fresh0
    rw [List.filter_eq_self]
    exact fun _ _ => rfl
  rw [this]
  rfl
def Good : List Sp2 → Bd → Prop
  | [], _ => True
  | s :: ss, B => (s.1 = "bind" ∨ s.1 = "leave") ∧ (s.1 = "bind" → ∃ h x a b, s.2 = .bnd h x a b) ∧ (s.1 = "leave" → ∀ h x a b, s.2 = .bnd h x a b → 1 ≤ B x) ∧ Good ss (stp s ([], B)).2
theorem good_leave {e : Ex} (h : e.binds = false) {rest : List Sp2} {B : Bd} (g : Good rest B) : Good (le e :: rest) B := by
  refine ⟨.inr rfl, fun z => absurd z le_not_bind, fun _ h2 x a b z => ?_, ?_⟩
  · have z' : e = .bnd h2 x a b := z
    rw [z'] at h; cases h
  · have : (stp (le e) ([], B)).2 = B := by
      cases e with
      | bnd _ _ _ _ => cases h
      | var x =>
        show (if B x = 0 then (TX.adds [] x, B) else ([], B)).2 = B
        split <;> rfl
      | _ => rfl
    rw [this]
    exact g
theorem good_lin : ∀ (e : Ex) (rest : List Sp2) (B : Bd), (∀ y, 0 ≤ B y) → Good rest B → Good (e.lin ++ rest) B
  | .num _, rest, B, _, g => good_leave rfl g
  | .var x, rest, B, _, g => good_leave rfl g
  | .op s a b, rest, B, n, g => by
    show Good ((a.lin ++ (b.lin ++ [le (.op s a b)])) ++ rest) B
    rw [List.append_assoc, List.append_assoc]
    exact good_lin a _ B n (good_lin b _ B n (good_leave rfl g))
  | .f2 s a b, rest, B, n, g => by
    show Good ((a.lin ++ (b.lin ++ [le (.f2 s a b)])) ++ rest) B
    rw [List.append_assoc, List.append_assoc]
    exact good_lin a _ B n (good_lin b _ B n (good_leave rfl g))
  | .call s a, rest, B, n, g => by
    show Good ((a.lin ++ [le (.call s a)]) ++ rest) B
    rw [List.append_assoc]
    exact good_lin a _ B n (good_leave rfl g)
  | .f1 s a, rest, B, n, g => by
    show Good ((a.lin ++ [le (.f1 s a)]) ++ rest) B
    rw [List.append_assoc]
    exact good_lin a _ B n (good_leave rfl g)
  | .ite c a b, rest, B, n, g => by
    show Good ((c.lin ++ (a.lin ++ (b.lin ++ [le (.ite c a b)]))) ++ rest) B
    rw [List.append_assoc, List.append_assoc, List.append_assoc]
    exact good_lin c _ B n (good_lin a _ B n (good_lin b _ B n (good_leave rfl g)))
  | .bnd h x a b, rest, B, n, g => by
    show Good ((a.lin ++ bi (.bnd h x a b) :: (b.lin ++ [le (.bnd h x a b)])) ++ rest) B
    rw [List.append_assoc, List.cons_append, List.append_assoc]
    have e1 : (stp (bi (.bnd h x a b)) ([], B)).2 = fun y => if y = x then B y + 1 else B y := by
      rw [stp_bi]
    have n2 : ∀ y, 0 ≤ (fun y => if y = x then B y + 1 else B y) y := fun y => by
      have := n y
      show 0 ≤ if y = x then B y + 1 else B y
      split <;> omega
    have e3 : (stp (le (.bnd h x a b)) ([], fun y => if y = x then B y + 1 else B y)).2 = B := by
      rw [stp_le]
      funext y
      by_cases c : y = x
      · simp only [c, if_true]; omega
      · simp only [c, if_false]
    refine good_lin a _ B n ⟨.inl rfl, fun _ => ⟨h, x, a, b, rfl⟩, fun z => absurd z.symm le_not_bind, ?_⟩
    rw [e1]
    refine good_lin b _ _ n2 ⟨.inr rfl, fun z => absurd z le_not_bind, fun _ h2 y a2 b2 z => ?_, ?_⟩
    · cases z
      have := n x
      show 1 ≤ if x = x then B x + 1 else B x
      rw [if_pos rfl]; omega
    · rw [e3]; exact g
theorem adds_le (L : List Str) (x : Str) : L.length ≤ (TX.adds L x).length := by
  unfold TX.adds
  split
  · exact Nat.le_refl _
  · simp
theorem stp_len (s : Sp2) (st : List Str × Bd) : st.1.length ≤ (stp s st).1.length := by
  unfold stp
  split
  · exact Nat.le_refl _
  · split
    · exact adds_le _ _
    · exact Nat.le_refl _
  · exact Nat.le_refl _
theorem run_len (ss : List Sp2) : ∀ st, st.1.length ≤ (run ss st).1.length := by
  induction ss with
  | nil => exact fun _ => Nat.le_refl _
  | cons s r ih => exact fun st => Nat.le_trans (stp_len s st) (ih _)
theorem stp_snd (s : Sp2) (L M : List Str) (B : Bd) : (stp s (L, B)).2 = (stp s (M, B)).2 := by
  unfold stp
  split
  · rfl
  · split <;> rfl
  · rfl
theorem le_tr {a b c : List Nat} (h1 : ¬ b < a) (h2 : ¬ c < b) : ¬ c < a := by
  have h1' : a ≤ b := h1
  have h2' : b ≤ c := h2
  exact List.le_trans h1' h2'
theorem rising_pw : ∀ (p : Str) (l : List Str), risingS p l = true → (∀ x ∈ l, ¬ x.cps.toList < p.cps.toList) ∧ l.Pairwise (fun a b => ¬ b.cps.toList < a.cps.toList)
  | p, [], _ => ⟨fun _ z => (nomatch z), List.Pairwise.nil⟩
  | p, x :: r, h => by
    obtain ⟨h1, h2⟩ := Bool.and_eq_true_iff.mp (show (!ltCps x.cps.toList p.cps.toList && risingS x r) = true from h)
    have h1' : ¬ x.cps.toList < p.cps.toList := by
      rw [PyProof.Rows.ltCps_eq] at h1
      simpa using h1
    obtain ⟨i1, i2⟩ := rising_pw x r h2
    refine ⟨fun y hy => ?_, List.pairwise_cons.mpr ⟨i1, i2⟩⟩
    rcases List.mem_cons.mp hy with rfl | hy
    · exact h1'
    · exact le_tr h1' (i1 y hy)
theorem sorted_pw : ∀ (l : List Str), sortedS l = true → l.Pairwise (fun a b => ¬ b.cps.toList < a.cps.toList)
  | [], _ => List.Pairwise.nil
  | x :: r, h => by
    obtain ⟨i1, i2⟩ := rising_pw x r h
    exact List.pairwise_cons.mpr ⟨i1, i2⟩
theorem sorted_unique {xs ys : List Str} (h1 : sortedS xs = true) (h2 : sortedS ys = true) (p : xs.Perm ys) : xs = ys := by
  refine List.Perm.eq_of_pairwise (le := fun a b => ¬ b.cps.toList < a.cps.toList) (fun a b _ _ c d => ?_) (sorted_pw _ h1) (sorted_pw _ h2) p
  have c' : a.cps.toList ≤ b.cps.toList := c
  have d' : b.cps.toList ≤ a.cps.toList := d
  have e := List.le_antisymm c' d'
  cases a; cases b
  simp at e
  rw [e]
theorem met_nodup (xs : List Str) : (TX.met xs).Nodup := by
  have : ∀ L : List Str, L.Nodup → (xs.foldl TX.adds L).Nodup := by
    induction xs with
    | nil => exact fun _ h => h
    | cons x r ih =>
      intro L h
      refine ih _ ?_
      unfold TX.adds
      split
      · exact h
      · rename_i c; exact List.nodup_cons.mpr ⟨c, h⟩
  exact this [] List.nodup_nil
theorem met_perm {xs ys : List Str} (h : ∀ x, x ∈ xs ↔ x ∈ ys) : (TX.met xs).Perm (TX.met ys) := (List.perm_ext_iff_of_nodup (met_nodup _) (met_nodup _)).mpr fun x => by rw [TX.met_mem, TX.met_mem, h]
end K2

namespace K2
open PySem PySem.Spec PyProof.Rows L2
theorem ref_ne2 {H : Hp} {p q : Addr} {o : HO} (e : H p = some o) (h : H q = none) : p ≠ q := fun z => by rw [z, h] at e; cases e
theorem head_notvar {H : Hp} {e : Ex} {b : Addr} {w : Str} {xs : List V} (h : ExAt H e (.ref b)) (hw : e.wf) (hb : H b = some (.tup (.str w :: xs))) (nv : ∀ x, e ≠ .var x) : ¬ w = "var" := by
  cases e with
  | num _ => obtain ⟨a, e, h⟩ := h; cases e; rw [h] at hb; cases hb; decide +kernel
  | var x => exact absurd rfl (nv x)
  | bnd z _ _ _ => obtain ⟨a, u, w, e, h, _⟩ := h; cases e; rw [h] at hb; cases hb; cases z <;> decide +kernel
  | op _ _ _ => obtain ⟨a, u, w, e, h, _⟩ := h; cases e; rw [h] at hb; cases hb; decide +kernel
  | call _ _ => obtain ⟨a, u, e, h, _⟩ := h; cases e; rw [h] at hb; cases hb; decide +kernel
  | ite _ _ _ => obtain ⟨a, c, u, w, e, h, _⟩ := h; cases e; rw [h] at hb; cases hb; decide +kernel
  | f1 w _ =>
    obtain ⟨a, u, e, h, _⟩ := h; cases e; rw [h] at hb; cases hb
    have := hw.1
    simp only [w1s, List.mem_cons, List.not_mem_nil, or_false] at this
    rcases this with rfl | rfl | rfl | rfl | rfl | rfl <;> decide +kernel
  | f2 w _ _ =>
    obtain ⟨a, u, y, e, h, _⟩ := h; cases e; rw [h] at hb; cases hb
    have := hw.1
    simp only [w2s, List.mem_cons, List.not_mem_nil, or_false] at this
    rcases this with rfl | rfl | rfl | rfl <;> decide +kernel
structure BdOk (kvs : List (L2.Key × V)) (B : Bd) : Prop where
  no : ∀ x, valV kvs (.inr x) = none → B x = 0
  yes : ∀ x v, valV kvs (.inr x) = some v → v = .int (B x)
theorem BdOk.get {kvs : List (L2.Key × V)} {B : Bd} (h : BdOk kvs B) (x : Str) : (valV kvs (.inr x)).getD (.int 0) = .int (B x) := by
  cases e : valV kvs (.inr x) with
  | none => rw [h.no x e]; rfl
  | some v => rw [h.yes x v e]; rfl
theorem BdOk.put {kvs : List (L2.Key × V)} {B : Bd} (h : BdOk kvs B) (x : Str) (n : Int) : BdOk (putK kvs (.inr x) (.int n)) (fun y => if y = x then n else B y) := by
  refine ⟨fun y e => ?_, fun y v e => ?_⟩
  · rw [valV_put] at e
    by_cases c : y = x
    · rw [if_pos (by rw [c])] at e; cases e
    · rw [if_neg (fun z => c (Sum.inr.inj z))] at e
      show (if y = x then n else B y) = 0
      rw [if_neg c]; exact h.no y e
  · rw [valV_put] at e
    show v = .int (if y = x then n else B y)
    by_cases c : y = x
    · rw [if_pos (by rw [c])] at e
      rw [if_pos c]; cases e; rfl
    · rw [if_neg (fun z => c (Sum.inr.inj z))] at e
      rw [if_neg c]; exact h.yes y v e
theorem drop_cons {α : Type} {xs : List α} {i : Nat} {x : α} (h : xs[i]? = some x) : xs.drop i = x :: xs.drop (i + 1) := by
  obtain ⟨hi, e⟩ := List.getElem?_eq_some_iff.mp h
  rw [List.drop_eq_getElem_cons hi, e]
theorem StesAt.get {H : Hp} : ∀ {es : List Sp2} {vs : List V}, StesAt H es vs → ∀ {i : Nat} {v : V}, vs[i]? = some v → ∃ e, es[i]? = some e ∧ SteAt H e v
  | [], [], _, _, _, e => by simp at e
  | f :: _, v :: _, ⟨a, _⟩, 0, _, e => by
    simp at e
    exact ⟨f, rfl, by rw [← e]; exact a⟩
  | _ :: _, _ :: _, ⟨_, b⟩, i + 1, _, e => b.get (i := i) (by simpa using e)
  | [], _ :: _, h, _, _, _ => h.elim
  | _ :: _, [], h, _, _, _ => h.elim
theorem lin_wf : ∀ {e : Ex}, e.wf → wfs e.lin := fun {e} h s hs => by
  induction e with
  | num _ => rw [List.mem_singleton.mp hs]; exact h
  | var _ => rw [List.mem_singleton.mp hs]; exact h
  | bnd _ _ a b iha ihb =>
    simp only [Ex.lin, List.mem_append, List.mem_cons, List.not_mem_nil, or_false] at hs
    rcases hs with hs | rfl | hs | rfl
    · exact iha h.1 hs
    · exact h
    · exact ihb h.2 hs
    · exact h
  | op _ a b iha ihb =>
    simp only [Ex.lin, List.mem_append, List.mem_cons, List.not_mem_nil, or_false] at hs
    rcases hs with hs | hs | rfl
    · exact iha h.1 hs
    · exact ihb h.2 hs
    · exact h
  | f2 _ a b iha ihb =>
    simp only [Ex.lin, List.mem_append, List.mem_cons, List.not_mem_nil, or_false] at hs
    rcases hs with hs | hs | rfl
    · exact iha h.2.1 hs
    · exact ihb h.2.2 hs
    · exact h
  | call _ a iha =>
    simp only [Ex.lin, List.mem_append, List.mem_cons, List.not_mem_nil, or_false] at hs
    rcases hs with hs | rfl
    · exact iha h hs
    · exact h
  | f1 _ a iha =>
    simp only [Ex.lin, List.mem_append, List.mem_cons, List.not_mem_nil, or_false] at hs
    rcases hs with hs | rfl
    · exact iha h.2 hs
    · exact h
  | ite c a b ihc iha ihb =>
    simp only [Ex.lin, List.mem_append, List.mem_cons, List.not_mem_nil, or_false] at hs
    rcases hs with hs | hs | hs | rfl
    · exact ihc h.1 hs
    · exact iha h.2.1 hs
    · exact ihb h.2.2 hs
    · exact h
section
variable {P : Program} {w : World} {K : PySem.W.Frag} {mg : Str → Option Value} {base : Heap} {a : PAd}
def spFree : Sp := fun vs H Q _ => ∃ (v : V) (e : Ex), vs = [v] ∧ ExAt H e v ∧ e.wf ∧ e.sz ≤ 1000000 ∧ (TX.met e.fv).length ≤ 1000 ∧
  ∀ (H' : Hp) (p : Addr) (ys : List Str), Same H H' → H p = none → H' p = some (.lst (ys.map V.str)) → ys.Perm (TX.met e.fv) → sortedS ys = true → Q (.ref p) H'
theorem ok_free_names (T : PTxt K mg a) : FnOk P w K mg base CX0 4 a.free_names.1 a.free_names.2 ["e"] spFree := by
  refine T.free_names.F.ok sc_free_names (fun vs H Q E h => ?_) (fun cdv A outer s H vs Q E hr h => ?_)
  · obtain ⟨_, _, rfl, _⟩ := h
    rfl
  obtain ⟨v, e, rfl, he, hw, hsz, hfv, q⟩ := h
  have nd := sc_free_names.nd
  have hu := hu_of hr
  have G_steps := ok_steps (P := P) (w := w) (base := base) T
  have mb := mw_sz e
  have ll := lin_len e
  have big : ∀ n, n ≤ 3000010 → n < sizeLine := fun n h => Nat.lt_of_le_of_lt h (by decide)
  refine ⟨_, (pss_cons (ps_set (i := 1) nd rfl (Or.inl rfl) (pe_callTy0 TX.cr_setTx0 (by rfl) T.set (by decide +kernel)))
  (pss_cons (ps_set (i := 2) nd rfl (Or.inl rfl) pe_dnewK)
  (pss_cons (ps_for PassesOwn.never rfl (pi_list (pe_call G_steps (hr.mono (by omega)) rfl T.steps.g T.steps.F.kp T.steps.b .nil pass0 (pa_cons (pv 0) pa_nil))) (pg_tup rfl (pgs_cons (pg_name (i := 3) nd rfl (Or.inl rfl)) (pgs_cons (pg_name (i := 4) nd rfl (Or.inl rfl)) pgs_nil))) (pss_one (ps_if (pt_cmpR op_eq (pv 3) pe_str (nomark _)) (pss_one (ps_dput hu (pv 2) (pe_ix ix_tup (pv 4) pe_int (fun _ _ => rfl)) (pe_op op_add (pe_dget2 hu (pv 2) (pe_ix ix_tup (pv 4) pe_int (fun _ _ => rfl)) pe_int ⟨rfl, rfl, rfl, rfl⟩) pe_int) rfl)) (pss_one (ps_if (pt_cmpR op_in_seq (pe_ix ix_tup (pv 4) pe_int (fun _ _ => rfl)) (pe_glob (v := .ref a.BIND) rfl T.gBIND rfl) (by rfl)) (pss_one (ps_daug hu (pv 2) (pe_ix ix_tup (pv 4) pe_int (fun _ _ => rfl)) pe_int in_sub (fun _ _ _ => rfl))) (pss_one (ps_if (PW.pt (pw_and (pt_cmpR op_eq (pe_ix ix_tup (pv 4) pe_int (fun _ _ => rfl)) pe_str (nomark _)) (pw_and1 (pt_cmpR op_eq (pe_dget2 hu (pv 2) (pe_ix ix_tup (pv 4) pe_int (fun _ _ => rfl)) pe_int ⟨rfl, rfl, rfl, rfl⟩) pe_int (nomark _))))) (pss_one (ps_expr (TX.pe_addTx (pv 1) (pa_cons (pe_ix ix_tup (pv 4) pe_int (fun _ _ => rfl)) pa_nil)))) pss_nil)))))))
  (pss_one (ps_ret (pe_callB (TX.cr_sortedTx rfl) (by rfl) T.sorted (by decide +kernel) (pa_cons (pv 1) pa_nil))))))), ?_⟩
  refine ⟨rfl, fun fr hfr => ?_⟩
  intro bd hbd
  have s1 := (same_new hfr (TX.TxS P w fr [])).trans (same_new hbd (.dK []))
  have f1 := (same_new hbd (.dK [])) _ _ (upd_same (a := fr) (H := H) (o := TX.TxS P w fr []))
  have nfb : fr ≠ bd := ne_of_none (upd_same (a := fr) (H := H) (o := TX.TxS P w fr [])) hbd
  refine ⟨_, rfl, v, e, rfl, he.kt (Kt.of s1), hw, hsz, fun H3 p us s3 hp0 hp hus => ?_⟩
  have ul := hus.len
  have lw := lin_wf hw
  have f3 := s3 _ _ f1
  have b3 := s3 _ _ (upd_same (a := bd) (o := HO.dK []))
  have npf : p ≠ fr := ref_ne hp0 f1
  have npb : p ≠ bd := ref_ne hp0 upd_same
  have s03 : ∀ b o, H b = some o → b ≠ fr ∧ b ≠ bd ∧ H3 b = some o := fun b o e => ⟨ref_ne2 e hfr, ref_ne2 ((same_new hfr (TX.TxS P w fr [])) _ _ e) hbd, s3 _ _ (s1 _ _ e)⟩
  refine ⟨p, rfl, ⟨_, SqL.of hp⟩, for_list (K := K) (a := p) (xs := us) (fun i σ H' => ∃ (kvs : List (L2.Key × V)) (L : List Str) (B : Bd) (x3 x4 : Option V), σ = [some v, some (.ref fr), some (.ref bd), x3, x4] ∧ H' fr = some (TX.TxS P w fr L) ∧ H' bd = some (.dK kvs) ∧ kvs.length ≤ i ∧ BdOk kvs B ∧ run (e.lin.drop i) (L, B) = run e.lin ([], fun _ => 0) ∧ Good (e.lin.drop i) B ∧ (∀ b o, b ≠ fr → b ≠ bd → H3 b = some o → H' b = some o)) ⟨[], [], fun _ => 0, none, none, rfl, f3, b3, Nat.le_refl _, ⟨fun _ _ => rfl, fun _ _ z => (nomatch z)⟩, rfl, ?_, fun _ _ _ _ e => e⟩ (fun i σ H' _ h => ?_) ?_ ?_⟩
  · have := good_lin e [] (fun _ => 0) (fun _ => Int.le_refl _) trivial
    rw [List.append_nil] at this
    exact this
  · obtain ⟨_, _, _, _, _, _, _, _, _, _, _, _, k⟩ := h
    exact SqL.of (k _ _ npf npb hp)
  · rintro i y σ H' hi ⟨kvs, L, B, x3, x4, rfl, hf, hb, hkl, hB, hrun, hgood, hold⟩
    obtain ⟨s0, hs0, a0, u, rfl, ha, hx⟩ := hus.get hi
    have kt : Kt H3 H' := fun b xs e => hold b _ (fun z => by rw [z, f3] at e; cases e) (fun z => by rw [z, b3] at e; cases e) e
    have ha := kt _ _ ha
    have hx := hx.kt kt
    have i2 : i < us.length := (List.getElem?_eq_some_iff.mp hi).1
    have i3 : kvs.length ≤ 3000000 := by omega
    have hw0 := lw s0 (List.mem_of_getElem? hs0)
    rw [drop_cons hs0] at hrun hgood
    rw [run_cons] at hrun
    obtain ⟨g1, g2, g3, g4⟩ := hgood
    refine ⟨a0, _, rfl, .inl (.inl ha), rfl, _, _, rfl, _, _, rfl, rfl, ?_⟩
    refine ⟨_, rfl, rfl, _, rfl, ?_⟩
    -- the dict takes a new number
    have put : ∀ (x : Str) (n : Int), stp s0 (L, B) = (L, fun y => if y = x then n else B y) → ∃ (kvs2 : List (L2.Key × V)) (L2 : List Str) (B2 : Bd) (x3 x4 : Option V), [some v, some (.ref fr), some (.ref bd), some (.str s0.1), some u] = [some v, some (.ref fr), some (.ref bd), x3, x4] ∧ (upd H' bd (.dK (putK kvs (.inr x) (.int n)))) fr = some (TX.TxS P w fr L2) ∧ (upd H' bd (.dK (putK kvs (.inr x) (.int n)))) bd = some (.dK kvs2) ∧ kvs2.length ≤ i + 1 ∧ BdOk kvs2 B2 ∧ run (e.lin.drop (i + 1)) (L2, B2) = run e.lin ([], fun _ => 0) ∧ Good (e.lin.drop (i + 1)) B2 ∧ (∀ b o, b ≠ fr → b ≠ bd → H3 b = some o → (upd H' bd (.dK (putK kvs (.inr x) (.int n)))) b = some o) := fun x n es => by
      refine ⟨_, L, fun y => if y = x then n else B y, _, _, rfl, by rw [upd_ne nfb]; exact hf, upd_same, ?_, hB.put x n, by rw [← es]; exact hrun, ?_, fun b o n1 n2 e => by rw [upd_ne n2]; exact hold b o n1 n2 e⟩
      · have := length_putK kvs (.inr x) (.int n)
        omega
      · have := stp_snd s0 [] L B
        rw [es] at this
        rw [this] at g4
        exact g4
    refine ite2 (fun c => ?_) (fun c => ?_)
    · have c' : s0.1 = "bind" := V.str.inj (of_decide_eq_true c)
      obtain ⟨h2, x, ea, eb, e0⟩ := g2 c'
      have es0 : s0 = bi (.bnd h2 x ea eb) := Prod.ext c' e0
      rw [e0] at hx
      obtain ⟨b0, w1, w2, rfl, hb0, _⟩ := hx
      refine ⟨_, rfl, bd, rfl, .inl ⟨kvs, .inl hb⟩, _, rfl, b0, _, _, _, rfl, rfl, .inl (.inl hb0), atI_nat (j := 1) rfl, _, DGet.k (k := .inr x) hb, ?_⟩
      rw [hB.get x]
      refine ⟨_, _, rfl, rfl, _, rfl, _, rfl, b0, _, _, _, rfl, rfl, .inl (.inl hb0), atI_nat (j := 1) rfl, bd, _, rfl, DPut.k (k := .inr x) hb (big _ (by omega)), ?_⟩
      exact put x (B x + 1) (by
        rw [es0, stp_bi]
        refine congrArg (Prod.mk L) (funext fun y => ?_)
        by_cases c : y = x
        · simp [c]
        · simp [c])
    · have c' : s0.1 = "leave" := g1.resolve_left (fun z => c (by rw [z]; exact decide_eq_true rfl))
      obtain ⟨b0, hw0', xs0, rfl, hb0, hin⟩ := head_binds hx hw0
      refine ⟨_, rfl, b0, _, _, _, rfl, rfl, .inl (.inl hb0), atI_nat (j := 0) rfl, ?_⟩
      refine ⟨_, _, rfl, .inr (T.bind _), rfl, rfl, _, rfl, ?_⟩
      have hin' : (if false = true then !inV (.str hw0') [.str "let", .str "each"] else inV (.str hw0') [.str "let", .str "each"]) = s0.2.binds := by rw [if_neg (by decide)]; exact hin
      cases hb2 : s0.2.binds with
      | true =>
        refine ifT (hin'.trans hb2) ?_
        obtain ⟨h2, x, ea, eb, e0⟩ : ∃ h2 x ea eb, s0.2 = .bnd h2 x ea eb := by
          cases e0 : s0.2 with
          | bnd h2 x ea eb => exact ⟨h2, x, ea, eb, rfl⟩
          | _ => rw [e0] at hb2; cases hb2
        have es0 : s0 = le (.bnd h2 x ea eb) := Prod.ext c' e0
        have b1 := g3 c' h2 x ea eb e0
        rw [e0] at hx
        obtain ⟨b1', w1, w2, eb0, hb1, _⟩ := hx
        cases eb0
        obtain ⟨v0, hv0⟩ : ∃ v0, valV kvs (.inr x) = some v0 := by
          cases hv : valV kvs (.inr x) with
          | none => have := hB.no x hv; omega
          | some v0 => exact ⟨v0, rfl⟩
        have ev0 := hB.yes x v0 hv0
        refine ⟨_, rfl, _, rfl, b0, _, _, _, rfl, rfl, .inl (.inl hb1), atI_nat (j := 1) rfl, bd, .int (B x), rfl, by rw [← ev0, ← hv0]; exact DGet.k (k := .inr x) hb, ?_⟩
        refine ⟨_, _, rfl, rfl, _, DPut.k (k := .inr x) hb (big _ (by omega)), ?_⟩
        exact put x (B x - 1) (by
          rw [es0, stp_le]
          refine congrArg (Prod.mk L) (funext fun y => ?_)
          by_cases c : y = x
          · simp [c]
          · simp [c])
      | false =>
        refine ifF (hin'.trans hb2) ?_
        have same : ∀ (L2 : List Str), stp s0 (L, B) = (L2, B) → run (e.lin.drop (i + 1)) (L2, B) = run e.lin ([], fun _ => 0) ∧ Good (e.lin.drop (i + 1)) B := fun L2 es => by
          refine ⟨by rw [← es]; exact hrun, ?_⟩
          have := stp_snd s0 [] L B
          rw [es] at this
          rw [this] at g4
          exact g4
        cases e0 : s0.2 with
        | var x =>
          rw [e0] at hx
          obtain ⟨b1', eb0, hb1⟩ := hx
          cases eb0
          rw [hb1] at hb0
          cases hb0
          refine ⟨_, rfl, b0, _, _, _, rfl, rfl, .inl (.inl hb1), atI_nat (j := 0) rfl, rfl, _, rfl, ?_⟩
          refine ifT rfl ?_
          refine ⟨_, rfl, bd, rfl, .inl ⟨kvs, .inl hb⟩, _, rfl, b0, _, _, _, rfl, rfl, .inl (.inl hb1), atI_nat (j := 1) rfl, _, DGet.k (k := .inr x) hb, ?_⟩
          rw [hB.get x]
          refine ⟨rfl, _, rfl, ?_⟩
          have es : stp s0 (L, B) = (if B x = 0 then (TX.adds L x, B) else (L, B)) := by unfold stp; rw [e0]
          refine ite2 (fun c2 => ?_) (fun c2 => ?_)
          · have c3 : B x = 0 := V.int.inj (of_decide_eq_true c2)
            rw [if_pos c3] at es
            obtain ⟨r1, r2⟩ := same _ es
            refine ⟨_, rfl, ⟨fr, L, rfl, hf⟩, _, rfl, b0, _, _, _, rfl, rfl, .inl (.inl hb1), atI_nat (j := 1) rfl, ?_⟩
            have lL : L.length ≤ 1000 := by
              have h1 := run_len (s0 :: e.lin.drop (i + 1)) (L, B)
              rw [run_cons, hrun, run_free] at h1
              exact Nat.le_trans h1 hfv
            refine ⟨fr, L, x, rfl, rfl, hf, Nat.lt_of_le_of_lt (Nat.succ_le_succ lL) (by decide), ?_⟩
            exact ⟨kvs, _, B, _, _, rfl, upd_same, by rw [upd_ne nfb.symm]; exact hb, by omega, hB, r1, r2, fun b o n1 n2 e => by rw [upd_ne n1]; exact hold b o n1 n2 e⟩
          · have c3 : ¬ B x = 0 := fun z => c2 (by rw [z]; exact decide_eq_true rfl)
            rw [if_neg c3] at es
            obtain ⟨r1, r2⟩ := same _ es
            exact ⟨kvs, _, B, _, _, rfl, hf, hb, by omega, hB, r1, r2, hold⟩
        | bnd h2 x ea eb => rw [e0] at hb2; cases hb2
        | _ =>
          have nv := head_notvar hx hw0 hb0 (fun x z => by rw [e0] at z; cases z)
          obtain ⟨r1, r2⟩ := same L (by unfold stp; rw [e0])
          refine ⟨_, rfl, b0, _, _, _, rfl, rfl, .inl (.inl hb0), atI_nat (j := 0) rfl, rfl, _, rfl, ?_⟩
          refine ifF (decide_eq_false fun z => nv (V.str.inj z)) ?_
          refine ifF rfl ?_
          exact ⟨kvs, _, B, _, _, rfl, hf, hb, by omega, hB, r1, r2, hold⟩
  · rintro σ H' ⟨kvs, L, B, x3, x4, rfl, hf, hb, hkl, hB, hrun, hgood, hold⟩
    have hrun' : (L, B) = run e.lin ([], fun _ => 0) := by
      rw [← hrun, ul, List.drop_length]; rfl
    have hL : L = TX.met e.fv := by
      rw [← run_free e, ← hrun']
    rw [hL] at hf
    refine ⟨_, rfl, fr, _, rfl, hf, hfv, fun ys p2 pm hs hp2 => ?_⟩
    refine q _ p2 ys (fun b o e => ?_) ?_ upd_same pm hs
    · obtain ⟨n1, n2, e3⟩ := s03 b o e
      exact (same_new hp2 _) _ _ (hold b o n1 n2 e3)
    · cases e0 : H p2 with
      | none => rfl
      | some o =>
        obtain ⟨n1, n2, e3⟩ := s03 p2 o e0
        rw [hold _ o n1 n2 e3] at hp2
        cases hp2
end
end K2

namespace K2
open PySem PySem.Spec PyProof.Rows L2
theorem met_le {xs ys : List Str} (h : ∀ x ∈ xs, x ∈ ys) : (TX.met xs).length ≤ (TX.met ys).length :=
  List.Nodup.length_le_of_subset (met_nodup xs) fun x hx => TX.met_mem.mpr (h x (TX.met_mem.mp hx))
theorem met_cons_le (x : Str) (ys : List Str) : (TX.met (x :: ys)).length ≤ (TX.met ys).length + 1 := by
  have : (TX.met (x :: ys)).length ≤ (x :: TX.met ys).length := List.Nodup.length_le_of_subset (met_nodup _) fun y hy => by
    rcases List.mem_cons.mp (TX.met_mem.mp hy) with rfl | h
    · exact List.mem_cons_self
    · exact List.mem_cons_of_mem _ (TX.met_mem.mpr h)
  exact this
def fvo : Option Ex → List Str
  | none => []
  | some e => e.fv
def ItAt (H : Hp) (o : Option Ex) (u : V) : Prop := match o with
  | none => ∃ s, u = .str s
  | some f => ExAt H f u
def Ex.tail : Ex → List (Option Ex)
  | .num _ | .var _ => []
  | .bnd _ _ a b => [none, some a, some b]
  | .op _ a b => [none, some a, some b]
  | .f2 _ a b => [some a, some b]
  | .call _ a => [none, some a]
  | .f1 _ a => [some a]
  | .ite c a b => [some c, some a, some b]
def ItsAt (H : Hp) : List (Option Ex) → List V → Prop
  | [], [] => True
  | e :: es, v :: vs => ItAt H e v ∧ ItsAt H es vs
  | _, _ => False
theorem ItsAt.get {H : Hp} : ∀ {es : List (Option Ex)} {vs : List V}, ItsAt H es vs → ∀ {i : Nat} {v : V}, vs[i]? = some v → ∃ e, es[i]? = some e ∧ ItAt H e v
  | [], [], _, _, _, e => by simp at e
  | f :: _, v :: _, ⟨a, _⟩, 0, _, e => by
    simp at e
    exact ⟨f, rfl, by rw [← e]; exact a⟩
  | _ :: _, _ :: _, ⟨_, b⟩, i + 1, _, e => b.get (i := i) (by simpa using e)
  | [], _ :: _, h, _, _, _ => h.elim
  | _ :: _, [], h, _, _, _ => h.elim
theorem ItsAt.len {H : Hp} : ∀ {es : List (Option Ex)} {vs : List V}, ItsAt H es vs → vs.length = es.length
  | [], [], _ => rfl
  | _ :: fs, _ :: vs, ⟨_, b⟩ => by rw [List.length_cons, List.length_cons, b.len]
  | [], _ :: _, h => h.elim
  | _ :: _, [], h => h.elim
theorem ItAt.kt {H H' : Hp} (t : Kt H H') {o : Option Ex} {u : V} (h : ItAt H o u) : ItAt H' o u := match o, h with
  | none, h => h
  | some _, h => ExAt.kt t h
theorem ItsAt.kt {H H' : Hp} (t : Kt H H') : ∀ {es : List (Option Ex)} {vs : List V}, ItsAt H es vs → ItsAt H' es vs
  | [], [], _ => trivial
  | _ :: _, _ :: _, ⟨a, b⟩ => ⟨a.kt t, b.kt t⟩
  | [], _ :: _, h => h.elim
  | _ :: _, [], h => h.elim
theorem tail_sub : ∀ (e : Ex), e.binds = false → ∀ f, some f ∈ e.tail → (e.wf → f.wf) ∧ f.dep < e.dep ∧ ∀ x ∈ f.fv, x ∈ e.fv := fun e hb f hf => by
  cases e with
  | num _ => cases hf
  | var _ => cases hf
  | bnd _ _ _ _ => cases hb
  | op s a b =>
    simp only [Ex.tail, List.mem_cons, List.not_mem_nil, or_false, Option.some.injEq, reduceCtorEq, false_or] at hf
    rcases hf with rfl | rfl
    · exact ⟨fun h => h.1, by simp only [Ex.dep]; omega, fun x h => List.mem_append_left _ h⟩
    · exact ⟨fun h => h.2, by simp only [Ex.dep]; omega, fun x h => List.mem_append_right _ h⟩
  | f2 s a b =>
    simp only [Ex.tail, List.mem_cons, List.not_mem_nil, or_false, Option.some.injEq, reduceCtorEq, false_or] at hf
    rcases hf with rfl | rfl
    · exact ⟨fun h => h.2.1, by simp only [Ex.dep]; omega, fun x h => List.mem_append_left _ h⟩
    · exact ⟨fun h => h.2.2, by simp only [Ex.dep]; omega, fun x h => List.mem_append_right _ h⟩
  | call s a =>
    simp only [Ex.tail, List.mem_cons, List.not_mem_nil, or_false, Option.some.injEq, reduceCtorEq, false_or] at hf
    subst hf
    exact ⟨fun h => h, by simp only [Ex.dep]; omega, fun x h => h⟩
  | f1 s a =>
    simp only [Ex.tail, List.mem_cons, List.not_mem_nil, or_false, Option.some.injEq, reduceCtorEq, false_or] at hf
    subst hf
    exact ⟨fun h => h.2, by simp only [Ex.dep]; omega, fun x h => h⟩
  | ite c a b =>
    simp only [Ex.tail, List.mem_cons, List.not_mem_nil, or_false, Option.some.injEq, reduceCtorEq, false_or] at hf
    rcases hf with rfl | rfl | rfl
    · exact ⟨fun h => h.1, by simp only [Ex.dep]; omega, fun x h => List.mem_append_left _ h⟩
    · exact ⟨fun h => h.2.1, by simp only [Ex.dep]; omega, fun x h => List.mem_append_right _ (List.mem_append_left _ h)⟩
    · exact ⟨fun h => h.2.2, by simp only [Ex.dep]; omega, fun x h => List.mem_append_right _ (List.mem_append_right _ h)⟩
theorem tail_fv (e : Ex) (hb : e.binds = false) (nv : ∀ x, e ≠ .var x) : e.tail.flatMap fvo = e.fv := by
  cases e with
  | bnd _ _ _ _ => cases hb
  | var x => exact absurd rfl (nv x)
  | _ => simp [Ex.tail, fvo, Ex.fv]
theorem tail_at {H : Hp} {e : Ex} {v : V} (h : ExAt H e v) (hb : e.binds = false) (nv : ∀ x, e ≠ .var x) (nn : ∀ n, e ≠ .num n) : ∃ b w us, v = .ref b ∧ H b = some (.tup (.str w :: us)) ∧ ItsAt H e.tail us ∧ 1 ≤ us.length ∧ us.length ≤ 3 := by
  cases e with
  | num n => exact absurd rfl (nn n)
  | var x => exact absurd rfl (nv x)
  | bnd _ _ _ _ => cases hb
  | op _ _ _ => obtain ⟨a, u, w, e, h, h1, h2⟩ := h; exact ⟨a, _, _, e, h, ⟨⟨_, rfl⟩, h1, h2, trivial⟩, by simp, by simp⟩
  | call _ _ => obtain ⟨a, u, e, h, h1⟩ := h; exact ⟨a, _, _, e, h, ⟨⟨_, rfl⟩, h1, trivial⟩, by simp, by simp⟩
  | ite _ _ _ => obtain ⟨a, c, u, w, e, h, h0, h1, h2⟩ := h; exact ⟨a, _, _, e, h, ⟨h0, h1, h2, trivial⟩, by simp, by simp⟩
  | f1 w _ => obtain ⟨a, u, e, h, h1⟩ := h; exact ⟨a, _, _, e, h, ⟨h1, trivial⟩, by simp, by simp⟩
  | f2 w _ _ => obtain ⟨a, u, y, e, h, h1, h2⟩ := h; exact ⟨a, _, _, e, h, ⟨h1, h2, trivial⟩, by simp, by simp⟩
theorem head_notnum {H : Hp} {e : Ex} {b : Addr} {w : Str} {xs : List V} (h : ExAt H e (.ref b)) (hw : e.wf) (hb : H b = some (.tup (.str w :: xs))) (nv : ∀ x, e ≠ .num x) : ¬ w = "num" := by
  cases e with
  | var _ => obtain ⟨a, e, h⟩ := h; cases e; rw [h] at hb; cases hb; decide +kernel
  | num x => exact absurd rfl (nv x)
  | bnd z _ _ _ => obtain ⟨a, u, w, e, h, _⟩ := h; cases e; rw [h] at hb; cases hb; cases z <;> decide +kernel
  | op _ _ _ => obtain ⟨a, u, w, e, h, _⟩ := h; cases e; rw [h] at hb; cases hb; decide +kernel
  | call _ _ => obtain ⟨a, u, e, h, _⟩ := h; cases e; rw [h] at hb; cases hb; decide +kernel
  | ite _ _ _ => obtain ⟨a, c, u, w, e, h, _⟩ := h; cases e; rw [h] at hb; cases hb; decide +kernel
  | f1 w _ =>
    obtain ⟨a, u, e, h, _⟩ := h; cases e; rw [h] at hb; cases hb
    have := hw.1
    simp only [w1s, List.mem_cons, List.not_mem_nil, or_false] at this
    rcases this with rfl | rfl | rfl | rfl | rfl | rfl <;> decide +kernel
  | f2 w _ _ =>
    obtain ⟨a, u, y, e, h, _⟩ := h; cases e; rw [h] at hb; cases hb
    have := hw.1
    simp only [w2s, List.mem_cons, List.not_mem_nil, or_false] at this
    rcases this with rfl | rfl | rfl | rfl <;> decide +kernel
section
variable {P : Program} {w : World} {K : PySem.W.Frag} {mg : Str → Option Value} {base : Heap} {a : PAd}
theorem down1 {CX : CXT} {k d : Nat} {f : Addr} {fd : FuncData} {ps : List Str} {sp : Nat → Sp} (h : ∀ e, d = e + 1 → FnOk P w K mg base CX k f fd ps (sp e)) : FnOk P w K mg base CX k f fd ps (fun vs H Q E => ∃ e, d = e + 1 ∧ sp e vs H Q E) :=
  ⟨fun vs H Q E ⟨e, he, q⟩ => (h e he).len vs H Q E q, fun A outer s H args us vs Q E hr h0 hb hv ⟨e, he, q⟩ => (h e he).run A outer s H args us vs Q E hr h0 hb hv q⟩
def spLF (d : Nat) : Sp := fun vs H Q _ => ∃ (v : V) (e : Ex), vs = [v] ∧ ExAt H e v ∧ e.wf ∧ e.dep ≤ d ∧ (TX.met e.fv).length + d ≤ 1000 ∧
  ∀ (H' : Hp) (p : Addr) (ys : List Str), Same H H' → H p = none → H' p = some (.lst (ys.map V.str)) → ys.Perm (TX.met e.fv) → sortedS ys = true → Q (.ref p) H'
theorem ok_law_free (T : PTxt K mg a) (d : Nat) : FnOk P w K mg base CX0 (d + 1) a.law_free.1 a.law_free.2 ["e"] (spLF d) := by
  induction d using Nat.strongRecOn with
  | _ d ih =>
  refine T.law_free.F.ok sc_law_free (fun vs H Q E h => ?_) (fun cdv A outer s H vs Q E hr h => ?_)
  · obtain ⟨_, _, rfl, _⟩ := h
    rfl
  obtain ⟨v, e, rfl, he, hw, hd, hfv, q⟩ := h
  have nd := sc_law_free.nd
  have G_law_free : FnOk P w K mg base CX0 d a.law_free.1 a.law_free.2 ["e"] (fun vs H Q E => ∃ e, d = e + 1 ∧ spLF e vs H Q E) := down1 (fun e he => (ih e (by omega)).mono (by omega))
  obtain ⟨d, rfl⟩ : ∃ d', d = d' + 1 := ⟨d - 1, by have := e.dep_pos; omega⟩
  have big : ∀ n, n ≤ 3000010 → n < sizeLine := fun n h => Nat.lt_of_le_of_lt h (by decide)
  refine ⟨_, (pss_cons (ps_if (pt_cmpR op_eq (pe_ix ix_tup (pv 0) pe_int (fun _ _ => rfl)) pe_str (nomark _)) (pss_one (ps_ret (pe_lst pa_nil))) pss_nil)
  (pss_cons (ps_if (pt_cmpR op_eq (pe_ix ix_tup (pv 0) pe_int (fun _ _ => rfl)) pe_str (nomark _)) (pss_one (ps_ret (pe_lst (pa_cons (pe_ix ix_tup (pv 0) pe_int (fun _ _ => rfl)) pa_nil)))) pss_nil)
  (pss_cons (ps_set (i := 1) nd rfl (Or.inl rfl) (pe_lst pa_nil))
  (pss_cons (ps_if (pt_cmpR op_in_seq (pe_ix ix_tup (pv 0) pe_int (fun _ _ => rfl)) (pe_tup (pa_cons pe_str (pa_cons pe_str pa_nil))) (by rfl)) (pss_one (ps_set (i := 1) nd rfl (Or.inl rfl) (pe_op op_cat (pe_call G_law_free (hr.mono (by omega)) rfl T.law_free.g T.law_free.F.kp T.law_free.b .nil pass0 (pa_cons (pe_ix ix_tup (pv 0) pe_int (fun _ _ => rfl)) pa_nil)) (pe_lc (own := [("name", 3)]) (g := gName 3) rfl nd (pi_list (pe_call G_law_free (hr.mono (by omega)) rfl T.law_free.g T.law_free.F.kp T.law_free.b .nil pass0 (pa_cons (pe_ix ix_tup (pv 0) pe_int (fun _ _ => rfl)) pa_nil))) (blkOk_by (N := ["e", "rows", "part", "name"]) (sc := defScope s_law_free) (by decide +kernel)) (fun _ _ _ _ _ => (pg_name (i := 3) nd rfl (Or.inl rfl))) (fun _ _ _ _ _ => (pts_one (pt_cmpR op_ne (pv 3) (pe_ix (ix_tupK (K := K) rfl) (pv 0) pe_int (fun _ _ => rfl)) (nomark _)))) (fun _ _ _ _ _ => (pv 3)))))) (pss_one (ps_for PassesOwn.never rfl (pi_tup (pe_slice sl_tup (pv 0) (po_some pe_int) po_none)) (pg_name (i := 2) nd rfl (Or.inl rfl)) (pss_one (ps_if (pt_val (pe_callB call_isi (by rfl) T.isinstance (by decide +kernel) (pa_cons (pv 2) (pa_cons (pe_bltn (v := .ty "tuple") rfl T.tuple (by decide +kernel) rfl) pa_nil)))) (pss_one (ps_set (i := 1) nd rfl (Or.inl rfl) (pe_op op_cat (pv 1) (pe_call G_law_free (hr.mono (by omega)) rfl T.law_free.g T.law_free.F.kp T.law_free.b .nil pass0 (pa_cons (pv 2) pa_nil))))) pss_nil)))))
  (pss_one (ps_ret (pe_callB (TX.cr_sortedTx rfl) (by rfl) T.sorted (by decide +kernel) (pa_cons (pe_callTy (TX.cr_setTx rfl) (by rfl) T.set (by decide +kernel) (pa_cons (pv 1) pa_nil)) pa_nil)))))))), ?_⟩
  by_cases nn : ∃ n, e = .num n
  · obtain ⟨n, rfl⟩ := nn
    obtain ⟨b, rfl, hb⟩ := he
    refine ⟨_, rfl, b, _, _, _, rfl, rfl, .inl (.inl hb), atI_nat (j := 0) rfl, rfl, _, rfl, ?_⟩
    refine ifT rfl ?_
    exact ⟨(by show 0 ≤ sizeLine; decide), fun p hp => q _ p [] (same_new hp _) hp upd_same (List.Perm.refl _) rfl⟩
  have nn' : ∀ n, e ≠ .num n := fun n z => nn ⟨n, z⟩
  obtain ⟨b, hw0, xs, rfl, hb, hin⟩ := head_binds he hw
  refine ⟨_, rfl, b, _, _, _, rfl, rfl, .inl (.inl hb), atI_nat (j := 0) rfl, rfl, _, rfl, ?_⟩
  refine ifF (decide_eq_false fun z => head_notnum he hw hb nn' (V.str.inj z)) ?_
  by_cases nv : ∃ x, e = .var x
  · obtain ⟨x, rfl⟩ := nv
    obtain ⟨b', eb, hb'⟩ := he
    cases eb
    rw [hb'] at hb
    cases hb
    refine ⟨_, rfl, b, _, _, _, rfl, rfl, .inl (.inl hb'), atI_nat (j := 0) rfl, rfl, _, rfl, ?_⟩
    refine ifT rfl ?_
    refine ⟨_, rfl, b, _, _, _, rfl, rfl, .inl (.inl hb'), atI_nat (j := 1) rfl, (by show 1 ≤ sizeLine; decide), fun p hp => ?_⟩
    refine q _ p [x] (same_new hp _) hp upd_same ?_ rfl
    have : TX.met (Ex.var x).fv = [x] := rfl
    rw [this]
  have nv' : ∀ n, e ≠ .var n := fun n z => nv ⟨n, z⟩
  refine ⟨_, rfl, b, _, _, _, rfl, rfl, .inl (.inl hb), atI_nat (j := 0) rfl, rfl, _, rfl, ?_⟩
  refine ifF (decide_eq_false fun z => head_notvar he hw hb nv' (V.str.inj z)) ?_
  refine ⟨(by show 0 ≤ sizeLine; decide), fun r0 hr0 => ?_⟩
  have s1 := same_new hr0 (.lst [])
  refine ⟨_, rfl, b, _, _, _, rfl, rfl, .inl (.inl (s1 _ _ hb)), atI_nat (j := 0) rfl, ?_⟩
  refine ⟨(by show 2 ≤ sizeLine; decide), fun t0 ht0 => ?_⟩
  have s2 := s1.trans (same_new ht0 (.tup [.str "let", .str "each"]))
  refine ⟨t0, _, rfl, .inr (.inl (.inl upd_same)), rfl, rfl, _, rfl, ?_⟩
  have hin' : (if false = true then !inV (.str hw0) [.str "let", .str "each"] else inV (.str hw0) [.str "let", .str "each"]) = e.binds := by rw [if_neg (by decide)]; exact hin
  have r2 : (upd (upd H r0 (.lst [])) t0 (.tup [.str "let", .str "each"])) r0 = some (.lst []) := (same_new ht0 _) _ _ upd_same
  generalize upd (upd H r0 (.lst [])) t0 (.tup [.str "let", .str "each"]) = H2 at s2 r2
  have free0 : ∀ (H3 : Hp) (p : Addr), Same H2 H3 → H3 p = none → H p = none := fun H3 p s3 hp => by
    cases e0 : H p with
    | none => rfl
    | some o => rw [s3 _ _ (s2 _ _ e0)] at hp; cases hp
  have fvl : (TX.met e.fv).length ≤ 1000 := by omega
  cases hbb : e.binds with
  | true =>
    refine ifT (hin'.trans hbb) ?_
    cases e with
    | bnd h x ea eb =>
      obtain ⟨b', u1, u2, eb0, hb', h1, h2⟩ := he
      cases eb0
      simp only [Ex.dep] at hd
      have ht := s2 _ _ hb'
      have l1 : (TX.met ea.fv).length ≤ (TX.met (Ex.bnd h x ea eb).fv).length := met_le fun y hy => List.mem_append_left _ hy
      have l2 : (TX.met eb.fv).length ≤ (TX.met (x :: (Ex.bnd h x ea eb).fv)).length := met_le fun y hy => by
        by_cases c : y = x
        · rw [c]; exact List.mem_cons_self
        · exact List.mem_cons_of_mem _ (List.mem_append_right _ (List.mem_filter.mpr ⟨hy, by simp [c]⟩))
      have l3 := met_cons_le x (Ex.bnd h x ea eb).fv
      refine ⟨_, rfl, b, _, _, _, rfl, rfl, .inl (.inl ht), atI_nat (j := 2) rfl, d, rfl, u1, ea, rfl, h1.kt (Kt.of s2), hw.1, by omega, by omega, fun H3 p1 y1 s3 hp1 hy1 pm1 _ => ?_⟩
      refine ⟨_, rfl, b, _, _, _, rfl, rfl, .inl (.inl (s3 _ _ ht)), atI_nat (j := 3) rfl, d, rfl, u2, eb, rfl, h2.kt (Kt.of (s2.trans s3)), hw.2, by omega, by omega, fun H4 p2 y2 s4 hp2 hy2 pm2 _ => ?_⟩
      have yl1 : y1.length ≤ 1000 := by rw [pm1.length_eq]; omega
      have yl2 : y2.length ≤ 1000 := by rw [pm2.length_eq]; omega
      have ht4 := s4 _ _ (s3 _ _ ht)
      refine ⟨p2, rfl, ⟨_, SqL.of hy2⟩, fun D hD => lc_list (K := K) (a := p2) (xs := y2.map V.str) (fun i H5 => ∃ acc : List Str, H5 = upd H4 D (.lst (acc.map V.str)) ∧ acc = (y2.take i).filter (fun y => decide (¬ y = x))) ⟨[], rfl, rfl⟩ (fun i H5 _ h => ?_) ?_ ?_⟩
      · obtain ⟨acc, rfl, _⟩ := h
        exact SqL.of ((same_new hD _) _ _ hy2)
      · rintro i y H5 hi ⟨acc, rfl, ea'⟩
        rw [List.getElem?_map] at hi
        obtain ⟨z, hz, rfl⟩ := Option.map_eq_some_iff.mp hi
        have al : acc.length ≤ 1000 := by
          rw [ea']
          exact Nat.le_trans (List.length_filter_le _ _) (by rw [List.length_take]; omega)
        have tk : (y2.take (i + 1)).filter (fun y => decide (¬ y = x)) = acc ++ [z].filter (fun y => decide (¬ y = x)) := by
          rw [List.take_succ, hz, List.filter_append, ← ea']; rfl
        refine ⟨rfl, _, rfl, _, rfl, b, _, _, _, rfl, rfl, .inl (.inl ((same_new hD _) _ _ ht4)), atI_nat (j := 1) rfl, rfl, _, rfl, ?_⟩
        by_cases c : z = x
        · refine ifF (by rw [c]; simp) ?_
          exact ⟨acc, rfl, by rw [tk]; simp [c]⟩
        · refine ifT (by simp only [Bool.not_eq_true', decide_eq_false_iff_not]; exact fun z => c (V.str.inj z)) ?_
          refine ⟨_, rfl, _, upd_same, ?_, acc ++ [z], ?_, ?_⟩
          · rw [List.length_map]; exact small1000 al
          · rw [List.map_append, upd_upd]; rfl
          · rw [tk]; simp [c]
      · rintro H5 ⟨acc, rfl, ea'⟩
        rw [List.length_map, List.take_length] at ea'
        have al : acc.length ≤ 1000 := by
          rw [ea']
          exact Nat.le_trans (List.length_filter_le _ _) yl2
        have s5 := same_new hD (.lst (acc.map V.str))
        refine ⟨p1, D, _, _, rfl, rfl, s5 _ _ (s4 _ _ hy1), upd_same, ?_, fun r6 hr6 => ?_⟩
        · rw [List.length_map, List.length_map]; exact Nat.le_of_lt (big _ (by omega))
        have s6 := ((s3.trans s4).trans s5).trans (same_new hr6 (.lst (y1.map V.str ++ acc.map V.str)))
        have mem : ∀ y, y ∈ y1 ++ acc ↔ y ∈ (Ex.bnd h x ea eb).fv := fun y => by
          simp only [Ex.fv, List.mem_append, ea', List.mem_filter, pm1.mem_iff, pm2.mem_iff, TX.met_mem]
        have pmm := met_perm mem
        refine ⟨_, rfl, r6, y1 ++ acc, rfl, SqL.of (by rw [List.map_append]; exact upd_same), by rw [List.length_append]; exact Nat.lt_of_le_of_lt (show _ ≤ 2001 by omega) (by decide), fun p7 hp7 => ?_⟩
        have s7 := s6.trans (same_new hp7 (TX.TxS P w p7 (TX.met (y1 ++ acc))))
        refine ⟨p7, _, rfl, upd_same, by rw [pmm.length_eq]; exact fvl, fun ys p8 pm8 hs8 hp8 => ?_⟩
        exact q _ p8 ys ((s2.trans s7).trans (same_new hp8 _)) (free0 _ _ s7 hp8) upd_same (pm8.trans pmm) hs8
    | _ => cases hbb
  | false =>
    refine ifF (hin'.trans hbb) ?_
    obtain ⟨b', w', us, eb0, hb', hus, u1, u3⟩ := tail_at he hbb nv' nn'
    cases eb0
    rw [hb'] at hb
    cases hb
    have hus2 := hus.kt (Kt.of s2)
    have ul := hus.len
    have cut1 : ¬ (HT.sIx (V.str hw0 :: xs).length 0 (some 1) = 0 ∧ HT.sIx (V.str hw0 :: xs).length (V.str hw0 :: xs).length none = (V.str hw0 :: xs).length) ∧ cutV (V.str hw0 :: xs) (some 1) none = xs := by
      match xs, u1, u3 with
      | [_], _, _ => exact ⟨fun z => absurd z.1 (show ¬ (HT.sIx 2 0 (some 1) = 0) by decide), rfl⟩
      | [_, _], _, _ => exact ⟨fun z => absurd z.1 (show ¬ (HT.sIx 3 0 (some 1) = 0) by decide), rfl⟩
      | [_, _, _], _, _ => exact ⟨fun z => absurd z.1 (show ¬ (HT.sIx 4 0 (some 1) = 0) by decide), rfl⟩
      | [], h, _ => exact absurd h (by decide)
      | _ :: _ :: _ :: _ :: _, _, h => simp at h
    refine ⟨_, rfl, _, rfl, b, _, rfl, .inl (.inl (s2 _ _ hb')), cut1.1, fun t3 ht3 => ?_⟩
    rw [cut1.2]
    have s3 := same_new ht3 (.tup xs)
    have r3 := s3 _ _ r2
    have s03 := s2.trans s3
    have hus3 := hus2.kt (Kt.of s3)
    have t3' : (upd H2 t3 (.tup xs)) t3 = some (.tup xs) := upd_same
    generalize upd H2 t3 (.tup xs) = H3 at s3 r3 s03 hus3 t3'
    refine ⟨t3, rfl, ⟨_, .inl (.inl t3')⟩, for_tup (K := K) (a := t3) (xs := xs) (fun i σ H' => ∃ (r : Addr) (zs : List Str) (x2 : Option V), σ = [some (.ref b), some (.ref r), x2, none] ∧ H' r = some (.lst (zs.map V.str)) ∧ Same H3 H' ∧ zs.length ≤ 1000 * i ∧ ∀ x, x ∈ zs ↔ x ∈ (e.tail.take i).flatMap fvo) ⟨r0, [], none, rfl, r3, Same.refl _, Nat.zero_le _, fun x => by simp⟩ (fun i σ H' _ h => ?_) ?_ ?_⟩
    · obtain ⟨_, _, _, _, _, k, _⟩ := h
      exact .inl (.inl (k _ _ t3'))
    · rintro i y σ H' hi ⟨r, zs, x2, rfl, hr', sm, zl, zm⟩
      obtain ⟨o, ho, hoa⟩ := hus3.get hi
      have i3 : i < 3 := Nat.lt_of_lt_of_le (List.getElem?_eq_some_iff.mp hi).1 u3
      have hoa' := hoa.kt (Kt.of sm)
      have tk : e.tail.take (i + 1) = e.tail.take i ++ [o] := by rw [List.take_succ, ho]; rfl
      cases o with
      | none =>
        obtain ⟨sx, rfl⟩ := hoa'
        refine ⟨_, rfl, _, _, _, _, false, rfl, .ty _, .base (.str _), kit_ty (by decide +kernel), _, rfl, ?_⟩
        refine ifF rfl ?_
        exact ⟨r, zs, _, rfl, hr', sm, by omega, fun x => by rw [zm, tk, List.flatMap_append]; simp [fvo]⟩
      | some f =>
        obtain ⟨f1, f2, f3⟩ := tail_sub e hbb f (List.mem_of_getElem? ho)
        obtain ⟨bf, wf', xf, rfl, hbf⟩ := ExAt.head hoa'
        refine ⟨_, rfl, _, _, _, _, true, rfl, .ty _, .base (.tup hbf), kit_ty (by decide +kernel), _, rfl, ?_⟩
        refine ifT rfl ?_
        have fl := met_le f3
        refine ⟨_, rfl, _, rfl, d, rfl, .ref bf, f, rfl, hoa', f1 hw, by omega, by omega, fun H5 p5 y5 s5 hp5 hy5 pm5 _ => ?_⟩
        have yl5 : y5.length ≤ 1000 := by rw [pm5.length_eq]; omega
        refine ⟨r, p5, _, _, rfl, rfl, s5 _ _ hr', hy5, ?_, fun r6 hr6 => ?_⟩
        · rw [List.length_map, List.length_map]; exact Nat.le_of_lt (big _ (by omega))
        refine ⟨r6, zs ++ y5, _, rfl, by rw [List.map_append]; exact upd_same, (sm.trans s5).trans (same_new hr6 _), by rw [List.length_append]; omega, fun x => ?_⟩
        rw [tk, List.flatMap_append, List.mem_append, List.mem_append, zm, pm5.mem_iff, TX.met_mem]
        simp [fvo]
    · rintro σ H' ⟨r, zs, x2, rfl, hr', sm, zl, zm⟩
      rw [ul, List.take_length, tail_fv e hbb nv'] at zm
      have pmm := met_perm zm
      refine ⟨_, rfl, r, zs, rfl, SqL.of hr', Nat.lt_of_le_of_lt (show _ ≤ 3001 by omega) (by decide), fun p7 hp7 => ?_⟩
      have s7 := sm.trans (same_new hp7 (TX.TxS P w p7 (TX.met zs)))
      refine ⟨p7, _, rfl, upd_same, by rw [pmm.length_eq]; exact fvl, fun ys p8 pm8 hs8 hp8 => ?_⟩
      exact q _ p8 ys ((s03.trans s7).trans (same_new hp8 _)) (free0 _ _ (s3.trans s7) hp8) upd_same (pm8.trans pmm) hs8
end
end K2

namespace K2
open PySem PySem.Spec PyProof.Rows L2
/-! the class of the table -/
structure MAt (K : PySem.W.Frag) (C : Addr) (m q : Str) (st : Stmt) (ps : List Str) (f : Addr × FuncData) : Prop where
  F : Fun K m q st f.1 f.2
  m : Meth K C m f.1
  b : Binds K f.2 ps []
structure TAd where
  C : Addr
  init : Addr × FuncData
  number : Addr × FuncData
  number_of : Addr × FuncData
  pair : Addr × FuncData
  seq : Addr × FuncData
  parts : Addr × FuncData
  element : Addr × FuncData
  need : Addr × FuncData
  taken_off : Addr × FuncData
  KindError : Addr
structure TTxt (K : PySem.W.Frag) (mg : Str → Option Value) (a : TAd) : Prop where
  cl : Cls K a.C
  nS : NoAttr K a.C "shapes"
  nN : NoAttr K a.C "numbers"
  gC : mg "KindTable" = some (.ref a.C)
  mkk : Mk K a.C a.init.1
  iF : Fun K "__init__" "KindTable.__init__" s_KindTable___init__ a.init.1 a.init.2
  ib : Binds K a.init.2 ["self"] []
  number : MAt K a.C "number" "KindTable.number" s_KindTable_number ["self", "shape"] a.number
  number_of : MAt K a.C "number_of" "KindTable.number_of" s_KindTable_number_of ["self", "kind"] a.number_of
  pair : MAt K a.C "pair" "KindTable.pair" s_KindTable_pair ["self", "first", "second"] a.pair
  seq : MAt K a.C "seq" "KindTable.seq" s_KindTable_seq ["self", "element"] a.seq
  parts : MAt K a.C "parts" "KindTable.parts" s_KindTable_parts ["self", "kind", "form"] a.parts
  element : MAt K a.C "element" "KindTable.element" s_KindTable_element ["self", "kind"] a.element
  need : MAt K a.C "need" "KindTable.need" s_KindTable_need ["self", "kind", "needed"] a.need
  taken_off : DefAt K mg "taken_off" s_taken_off ["stack", "many"] a.taken_off
  len : mg "len" = none
  reversed : mg "reversed" = none
  num : ∃ u, mg "NUM" = some u ∧ RelV (.int 0) u
  gK : mg "KindError" = some (.ref a.KindError)
  xT : PySem.W.excIn K a.KindError [.type "ValueError", .type "Exception", .type "BaseException", .type "object"] "ValueError.__new__" = true
  kT : PySem.W.keepIn K (.ref a.KindError) = true
  bT : PySem.W.subIn K (.ref a.KindError) (.type "BaseException") = some true
  tT : PySem.W.typeIn K (.ref a.KindError) = some (.type "type")

/-! ### numbers of kinds -/
def ix (K : List Kd) (k : Kd) : Int := (K.idxOf k : Nat)
def keyOf (K : List Kd) : Kd → List L2.Key
  | .num => [.inr "num"]
  | .pair a b => [.inr "pair", .inl (ix K a), .inl (ix K b)]
  | .seq a => [.inr "seq", .inl (ix K a)]
def comps : Kd → List Kd
  | .num => []
  | .pair a b => [a, b]
  | .seq a => [a]
structure KOk (K : List Kd) : Prop where
  nd : K.Nodup
  z : K[0]? = some .num
  cl : ∀ k ∈ K, ∀ c ∈ comps k, c ∈ K
theorem at_ixN {K : List Kd} {k : Kd} (h : k ∈ K) : K[K.idxOf k]? = some k := by
  have hl := List.idxOf_lt_length_iff.mpr h
  rw [List.getElem?_eq_getElem hl, List.getElem_idxOf hl]
theorem ix_inj {K : List Kd} {a b : Kd} (ha : a ∈ K) (hb : b ∈ K) (e : ix K a = ix K b) : a = b := by
  have e' : K.idxOf a = K.idxOf b := by unfold ix at e; omega
  have h1 := at_ixN ha
  rw [e', at_ixN hb] at h1
  exact (Option.some.inj h1).symm
theorem keyOf_inj {K : List Kd} : ∀ {k l : Kd}, (∀ c ∈ comps k, c ∈ K) → (∀ c ∈ comps l, c ∈ K) → keyOf K k = keyOf K l → k = l
  | .num, .num, _, _, _ => rfl
  | .num, .pair _ _, _, _, e => by simp [keyOf] at e
  | .num, .seq _, _, _, e => by simp [keyOf] at e
  | .pair _ _, .num, _, _, e => by simp [keyOf] at e
  | .seq _, .num, _, _, e => by simp [keyOf] at e
  | .pair _ _, .seq _, _, _, e => by simp [keyOf] at e
  | .seq _, .pair _ _, _, _, e => by simp [keyOf] at e
  | .pair a b, .pair c d, hk, hl, e => by
    simp only [keyOf, List.cons.injEq, and_true, true_and, Sum.inl.injEq] at e
    rw [ix_inj (hk _ (by simp [comps])) (hl _ (by simp [comps])) e.1, ix_inj (hk _ (by simp [comps])) (hl _ (by simp [comps])) e.2]
  | .seq a, .seq c, hk, hl, e => by
    simp only [keyOf, List.cons.injEq, and_true, true_and, Sum.inl.injEq] at e
    rw [ix_inj (hk _ (by simp [comps])) (hl _ (by simp [comps])) e]
theorem ix_app {K L : List Kd} {k : Kd} (h : k ∈ K) : ix (K ++ L) k = ix K k := by
  unfold ix
  rw [List.idxOf_append, if_pos h]
theorem keyOf_app {K L : List Kd} {k : Kd} (h : ∀ c ∈ comps k, c ∈ K) : keyOf (K ++ L) k = keyOf K k := by
  cases k with
  | num => rfl
  | pair a b => simp only [keyOf]; rw [ix_app (h a (by simp [comps])), ix_app (h b (by simp [comps]))]
  | seq a => simp only [keyOf]; rw [ix_app (h a (by simp [comps]))]
theorem ix_at {K : List Kd} {k : Kd} {i : Nat} (nd : K.Nodup) (h : K[i]? = some k) : ix K k = i := by
  obtain ⟨hi, e⟩ := List.getElem?_eq_some_iff.mp h
  unfold ix
  rw [← e, nd.idxOf_getElem]
theorem ix_new {K : List Kd} {k : Kd} (h : k ∉ K) : ix (K ++ [k]) k = K.length := by
  unfold ix
  rw [List.idxOf_append, if_neg h]
  simp
theorem KOk.snoc {K : List Kd} (o : KOk K) {k : Kd} (h : k ∉ K) (hc : ∀ c ∈ comps k, c ∈ K) : KOk (K ++ [k]) := by
  refine ⟨?_, ?_, fun l hl c hcl => ?_⟩
  · rw [List.nodup_append]
    exact ⟨o.nd, by simp, fun a ha b hb e => h (by rw [List.mem_singleton.mp hb] at e; rw [← e]; exact ha)⟩
  · have := o.z
    have hl : 0 < K.length := (List.getElem?_eq_some_iff.mp this).1
    rw [List.getElem?_append_left hl]; exact this
  · rcases List.mem_append.mp hl with hl | hl
    · exact List.mem_append_left _ (o.cl l hl c hcl)
    · rw [List.mem_singleton.mp hl] at hcl
      exact List.mem_append_left _ (hc c hcl)
/-! ### the table in the heap -/
def tf (sl nm : Addr) : List (Str × V) := putF "numbers" (.ref nm) (putF "shapes" (.ref sl) [])
theorem ns_ : ¬ (("numbers" : Str) = "shapes") := by decide +kernel
theorem sn_ : ¬ (("shapes" : Str) = "numbers") := by decide +kernel
theorem tf_s (sl nm : Addr) : (tf sl nm).lookup ("shapes" : Str) = some (.ref sl) := by
  unfold tf
  rw [lookup_putF, if_neg sn_, lookup_putF, if_pos rfl]
theorem tf_n (sl nm : Addr) : (tf sl nm).lookup ("numbers" : Str) = some (.ref nm) := by
  unfold tf
  rw [lookup_putF, if_pos rfl]
theorem tf_no (sl nm : Addr) {m : Str} (h1 : ¬ m = "numbers") (h2 : ¬ m = "shapes") : (tf sl nm).lookup m = none := by
  unfold tf
  rw [lookup_putF, if_neg h1, lookup_putF, if_neg h2]
  all_goals rfl
/-- where the table's parts stand -/
structure Tb where
  tb : Addr
  sl : Addr
  nm : Addr
def ShAt (H : Hp) (K : List Kd) (k : Kd) (v : V) : Prop := ∃ b, v = .ref b ∧ H b = some (.tup ((keyOf K k).map kV))
structure TbAt (C : Addr) (H : Hp) (t : Tb) (K : List Kd) : Prop where
  ob : ∃ dx, H t.tb = some (.ins C dx (tf t.sl t.nm))
  sh : ∃ shs, H t.sl = some (.lst shs) ∧ shs.length = K.length ∧ ∀ (i : Nat) (k : Kd), K[i]? = some k → ∃ v, shs[i]? = some v ∧ ShAt H K k v
  nu : ∃ kvs, H t.nm = some (.dT kvs) ∧ kvs.length = K.length ∧ (∀ k, k ∈ K → valV kvs (keyOf K k) = some (.int (ix K k))) ∧ ∀ key v, valV kvs key = some v → ∃ k, k ∈ K ∧ key = keyOf K k
  ok : KOk K
/-- all but the table's list and dict stays -/
def TFr (t : Tb) (H H' : Hp) : Prop := ∀ b o, b ≠ t.sl → b ≠ t.nm → H b = some o → H' b = some o
theorem TFr.trans {t : Tb} {H H1 H2 : Hp} (x : TFr t H H1) (y : TFr t H1 H2) : TFr t H H2 := fun b o n m e => y b o n m (x b o n m e)
theorem TFr.of {t : Tb} {H H1 : Hp} (x : Same H H1) : TFr t H H1 := fun b o _ _ e => x b o e
theorem TbAt.kt {C : Addr} {H H' : Hp} {t : Tb} {K : List Kd} (h : TbAt C H t K) (f : TFr t H H') : Kt H H' := fun b xs e => by
  obtain ⟨shs, h1, _⟩ := h.sh
  obtain ⟨kvs, h2, _⟩ := h.nu
  exact f b _ (fun z => by rw [z, h1] at e; cases e) (fun z => by rw [z, h2] at e; cases e) e
theorem TbAt.keep {C : Addr} {H H' : Hp} {t : Tb} {K : List Kd} (h : TbAt C H t K) (f : Same H H') : TbAt C H' t K :=
  ⟨let ⟨dx, e⟩ := h.ob; ⟨dx, f _ _ e⟩, let ⟨shs, e, l, m⟩ := h.sh; ⟨shs, f _ _ e, l, fun i k q => let ⟨v, a, b, c, d⟩ := m i k q; ⟨v, a, b, c, f _ _ d⟩⟩, let ⟨kvs, e, r⟩ := h.nu; ⟨kvs, f _ _ e, r⟩, h.ok⟩
/-- more kinds -/
def More (K K' : List Kd) : Prop := ∃ L, K' = K ++ L
theorem More.refl (K : List Kd) : More K K := ⟨[], (List.append_nil K).symm⟩
theorem More.trans {K L M : List Kd} (x : More K L) (y : More L M) : More K M := by
  obtain ⟨a, rfl⟩ := x
  obtain ⟨b, rfl⟩ := y
  exact ⟨a ++ b, List.append_assoc _ _ _⟩
theorem More.mem {K L : List Kd} (x : More K L) {k : Kd} (h : k ∈ K) : k ∈ L := by
  obtain ⟨a, rfl⟩ := x
  exact List.mem_append_left _ h
theorem More.ix {K L : List Kd} (x : More K L) {k : Kd} (h : k ∈ K) : ix L k = ix K k := by
  obtain ⟨a, rfl⟩ := x
  exact ix_app h
end K2

namespace K2
open PySem PySem.Spec PyProof.Rows L2
section
variable {P : Program} {w : World} {K : PySem.W.Frag} {mg : Str → Option Value} {base : Heap} {a : TAd}
def spNumK (C : Addr) : Sp := fun vs H Q _ => ∃ (t : Tb) (b : Addr) (L : List Kd) (k : Kd), vs = [.ref t.tb, .ref b] ∧ TbAt C H t L ∧ L.length < 1000000 ∧ H b = some (.tup ((keyOf L k).map kV)) ∧ (∀ c ∈ comps k, c ∈ L) ∧
  ∀ (H' : Hp) (L' : List Kd), TFr t H H' → TbAt C H' t L' → More L L' → L'.length ≤ L.length + 1 → k ∈ L' → Q (.int (ix L' k)) H'
theorem ok_number (T : TTxt K mg a) : FnOk P w K mg base CX0 1 a.number.1 a.number.2 ["self", "shape"] (spNumK a.C) := by
  refine T.number.F.ok sc_KindTable_number (fun vs H Q E h => ?_) (fun cdv A outer s H vs Q E hr h => ?_)
  · obtain ⟨_, _, _, _, rfl, _⟩ := h
    rfl
  obtain ⟨t, b, L, k, rfl, hT, hL, hb, hc, q⟩ := h
  have nd := sc_KindTable_number.nd
  have hu := hu_of hr
  have big : ∀ n, n ≤ 3000010 → n < sizeLine := fun n h => Nat.lt_of_le_of_lt h (by decide)
  obtain ⟨⟨dx, hob⟩, ⟨shs, hsl, sll, sha⟩, ⟨kvs, hnm, nml, nuy, nun⟩, hok⟩ := id hT
  refine ⟨_, (pss_cons (ps_if (pt_cmp (pc_dnotin hu (pv 1) (pe_fld (pv 0) rfl))) (pss_cons (ps_dput hu (pe_fld (pv 0) rfl) (pv 1) (pe_callB call_len_seq (by rfl) T.len PySem.boot_len (pa_cons (pe_fld (pv 0) rfl) pa_nil)) rfl)
  (pss_one (ps_expr (pe_bm PySem.F.plainAttrs_list PySem.F.slot_list_append PySem.F.type_list_append mt_append (pe_fld (pv 0) rfl) (pa_cons (pv 1) pa_nil))))) pss_nil)
  (pss_one (ps_ret (pe_dget hu (pe_fld (pv 0) rfl) (pv 1) (fun _ _ => rfl))))), ?_⟩
  refine ⟨_, rfl, _, rfl, t.tb, a.C, dx, _, _, rfl, hob, T.cl, T.nN, tf_n _ _, t.nm, _, rfl, DGet.t hnm hb, _, rfl, ?_⟩
  by_cases hk : k ∈ L
  · have hv := nuy k hk
    refine ifF (by rw [hv]; rfl) ?_
    refine ⟨_, rfl, t.tb, a.C, dx, _, _, rfl, hob, T.cl, T.nN, tf_n _ _, _, rfl, t.nm, _, rfl, by rw [← hv]; exact DGet.t hnm hb, ?_⟩
    exact q H L (fun _ _ _ _ e => e) hT (More.refl L) (by omega) hk
  · have hv : valV kvs (keyOf L k) = none := by
      cases e : valV kvs (keyOf L k) with
      | none => rfl
      | some v =>
        obtain ⟨k', hk', ek⟩ := nun _ _ e
        exact absurd (by rw [keyOf_inj hc (hok.cl k' hk') ek]; exact hk') hk
    refine ifT (by rw [hv]; rfl) ?_
    have nsn : t.sl ≠ t.nm := ne_of hsl hnm (fun z => nomatch z)
    have nst : t.sl ≠ t.tb := ne_of hsl hob (fun z => nomatch z)
    have nnt : t.nm ≠ t.tb := ne_of hnm hob (fun z => nomatch z)
    have nsb : b ≠ t.sl := ne_of hb hsl (fun z => nomatch z)
    have nnb : b ≠ t.nm := ne_of hb hnm (fun z => nomatch z)
    refine ⟨_, rfl, t.tb, a.C, dx, _, _, rfl, hob, T.cl, T.nS, tf_s _ _, t.sl, _, rfl, .inl (SqL.of hsl), ?_⟩
    refine ⟨_, rfl, t.tb, a.C, dx, _, _, rfl, hob, T.cl, T.nN, tf_n _ _, _, rfl, t.nm, _, rfl, DPut.t hnm hb (big _ (by omega)), ?_⟩
    refine ⟨_, rfl, t.tb, a.C, dx, _, _, rfl, (by rw [upd_ne nnt.symm]; exact hob), T.cl, T.nS, tf_s _ _, .inl ⟨rfl, _, SqL.of (by rw [upd_ne nsn]; exact hsl)⟩, _, rfl, t.sl, _, _, rfl, rfl, (by rw [upd_ne nsn]; exact hsl), big _ (by omega), ?_⟩
    have eput : putK kvs (keyOf L k) (.int (shs.length : Nat)) = kvs ++ [(keyOf L k, .int (shs.length : Nat))] := putK_new _ hv
    obtain ⟨H', eH⟩ : ∃ H', H' = upd (upd H t.nm (.dT (putK kvs (keyOf L k) (.int (shs.length : Nat))))) t.sl (.lst (shs ++ [.ref b])) := ⟨_, rfl⟩
    have fr : TFr t H H' := fun c o n m e => by rw [eH, upd_ne n, upd_ne m]; exact e
    have kt := hT.kt fr
    have hob' : H' t.tb = some (.ins a.C dx (tf t.sl t.nm)) := by rw [eH, upd_ne nst.symm, upd_ne nnt.symm]; exact hob
    have hnm' : H' t.nm = some (.dT (putK kvs (keyOf L k) (.int (shs.length : Nat)))) := by rw [eH, upd_ne nsn.symm, upd_same]
    have ml : More L (L ++ [k]) := ⟨[k], rfl⟩
    have hT' : TbAt a.C H' t (L ++ [k]) := by
      refine ⟨⟨dx, hob'⟩, ⟨shs ++ [.ref b], by rw [eH, upd_same], by rw [List.length_append, List.length_append, sll]; rfl, fun i l hi => ?_⟩, ⟨_, hnm', ?_, fun l hl => ?_, fun key v e => ?_⟩, hok.snoc hk hc⟩
      · by_cases hlt : i < L.length
        · rw [List.getElem?_append_left hlt] at hi
          obtain ⟨v, h1, b2, h2, h3⟩ := sha i l hi
          have lm := List.mem_of_getElem? hi
          refine ⟨v, by rw [List.getElem?_append_left (by omega)]; exact h1, b2, h2, ?_⟩
          rw [keyOf_app (hok.cl l lm)]
          exact kt _ _ h3
        · have hi2 : i < (L ++ [k]).length := (List.getElem?_eq_some_iff.mp hi).1
          rw [List.length_append] at hi2
          have ei : i = L.length := by simp at hi2; omega
          rw [ei, List.getElem?_append_right (Nat.le_refl _), Nat.sub_self] at hi
          cases hi
          refine ⟨.ref b, by rw [ei, List.getElem?_append_right (by omega), sll, Nat.sub_self]; rfl, b, rfl, ?_⟩
          rw [keyOf_app hc]
          exact kt _ _ hb
      · rw [eput, List.length_append, List.length_append, nml]; rfl
      · rw [valV_put]
        rcases List.mem_append.mp hl with hl | hl
        · rw [keyOf_app (hok.cl l hl), if_neg (fun z => hk (by rw [← keyOf_inj (hok.cl l hl) hc z]; exact hl)), nuy l hl, ix_app hl]
        · rw [List.mem_singleton.mp hl, keyOf_app hc, if_pos rfl, ix_new hk, sll]
      · rw [valV_put] at e
        by_cases c : key = keyOf L k
        · exact ⟨k, List.mem_append_right _ (List.mem_singleton.mpr rfl), by rw [keyOf_app hc]; exact c⟩
        · rw [if_neg c] at e
          obtain ⟨k', h1, h2⟩ := nun _ _ e
          exact ⟨k', List.mem_append_left _ h1, by rw [keyOf_app (hok.cl k' h1)]; exact h2⟩
    rw [← eH]
    have hb' := kt _ _ hb
    have km : k ∈ L ++ [k] := List.mem_append_right _ (List.mem_singleton.mpr rfl)
    have hvv : valV (putK kvs (keyOf L k) (.int (shs.length : Nat))) (keyOf L k) = some (.int (ix (L ++ [k]) k)) := by rw [valV_put, if_pos rfl, ix_new hk, sll]
    refine ⟨_, rfl, t.tb, a.C, dx, _, _, rfl, hob', T.cl, T.nN, tf_n _ _, _, rfl, t.nm, _, rfl, by rw [← hvv]; exact DGet.t hnm' hb', ?_⟩
    exact q H' (L ++ [k]) fr hT' ml (by rw [List.length_append]; exact Nat.le_refl _) km
def spPair (C : Addr) : Sp := fun vs H Q _ => ∃ (t : Tb) (L : List Kd) (k l : Kd), vs = [.ref t.tb, .int (ix L k), .int (ix L l)] ∧ TbAt C H t L ∧ L.length < 1000000 ∧ k ∈ L ∧ l ∈ L ∧
  ∀ (H' : Hp) (L' : List Kd), TFr t H H' → TbAt C H' t L' → More L L' → L'.length ≤ L.length + 1 → .pair k l ∈ L' → Q (.int (ix L' (.pair k l))) H'
theorem ok_pair (T : TTxt K mg a) : FnOk P w K mg base CX0 2 a.pair.1 a.pair.2 ["self", "first", "second"] (spPair a.C) := by
  refine T.pair.F.ok sc_KindTable_pair (fun vs H Q E h => ?_) (fun cdv A outer s H vs Q E hr h => ?_)
  · obtain ⟨_, _, _, _, rfl, _⟩ := h
    rfl
  obtain ⟨t, L, k, l, rfl, hT, hL, hk, hl, q⟩ := h
  have G_number := ok_number (P := P) (w := w) (base := base) T
  obtain ⟨dx, hob⟩ := hT.ob
  refine ⟨_, (pss_one (ps_ret (pe_meth (pv 0) T.cl T.number.m G_number (hr.mono (by omega)) T.number.b .nil pass0 (pa_cons (pe_tup (pa_cons pe_str (pa_cons (pv 1) (pa_cons (pv 2) pa_nil)))) pa_nil)))), ?_⟩
  refine ⟨_, rfl, t.tb, dx, _, rfl, hob, tf_no _ _ (by decide +kernel) (by decide +kernel), _, rfl, _, rfl, (by show 3 ≤ sizeLine; decide), fun p hp => ?_⟩
  have s1 := same_new hp (.tup [.str "pair", .int (ix L k), .int (ix L l)])
  exact ⟨t, p, L, .pair k l, rfl, hT.keep s1, hL, upd_same, fun c hc => by
    simp only [comps, List.mem_cons, List.not_mem_nil, or_false] at hc
    rcases hc with rfl | rfl
    · exact hk
    · exact hl, fun H' L' f T' m ll km => q H' L' ((TFr.of s1).trans f) T' m ll km⟩
def spSeqK (C : Addr) : Sp := fun vs H Q _ => ∃ (t : Tb) (L : List Kd) (k : Kd), vs = [.ref t.tb, .int (ix L k)] ∧ TbAt C H t L ∧ L.length < 1000000 ∧ k ∈ L ∧
  ∀ (H' : Hp) (L' : List Kd), TFr t H H' → TbAt C H' t L' → More L L' → L'.length ≤ L.length + 1 → .seq k ∈ L' → Q (.int (ix L' (.seq k))) H'
theorem ok_seq (T : TTxt K mg a) : FnOk P w K mg base CX0 2 a.seq.1 a.seq.2 ["self", "element"] (spSeqK a.C) := by
  refine T.seq.F.ok sc_KindTable_seq (fun vs H Q E h => ?_) (fun cdv A outer s H vs Q E hr h => ?_)
  · obtain ⟨_, _, _, rfl, _⟩ := h
    rfl
  obtain ⟨t, L, k, rfl, hT, hL, hk, q⟩ := h
  have G_number := ok_number (P := P) (w := w) (base := base) T
  obtain ⟨dx, hob⟩ := hT.ob
  refine ⟨_, (pss_one (ps_ret (pe_meth (pv 0) T.cl T.number.m G_number (hr.mono (by omega)) T.number.b .nil pass0 (pa_cons (pe_tup (pa_cons pe_str (pa_cons (pv 1) pa_nil))) pa_nil)))), ?_⟩
  refine ⟨_, rfl, t.tb, dx, _, rfl, hob, tf_no _ _ (by decide +kernel) (by decide +kernel), _, rfl, (by show 2 ≤ sizeLine; decide), fun p hp => ?_⟩
  have s1 := same_new hp (.tup [.str "seq", .int (ix L k)])
  exact ⟨t, p, L, .seq k, rfl, hT.keep s1, hL, upd_same, fun c hc => by
    simp only [comps, List.mem_cons, List.not_mem_nil, or_false] at hc
    rw [hc]; exact hk, fun H' L' f T' m ll km => q H' L' ((TFr.of s1).trans f) T' m ll km⟩
end
end K2

namespace K2
open PySem PySem.Spec PyProof.Rows L2
def Kd.hw : Kd → Str
  | .num => "num"
  | .pair _ _ => "pair"
  | .seq _ => "seq"
theorem TbAt.shape {C : Addr} {H : Hp} {t : Tb} {L : List Kd} (h : TbAt C H t L) {k : Kd} (hk : k ∈ L) : ∃ shs b, H t.sl = some (.lst shs) ∧ atI shs (ix L k) = some (.ref b) ∧ H b = some (.tup ((keyOf L k).map kV)) := by
  obtain ⟨shs, h1, h2, h3⟩ := h.sh
  obtain ⟨v, h4, b, rfl, h5⟩ := h3 _ k (at_ixN hk)
  exact ⟨shs, b, h1, atI_nat h4, h5⟩
theorem key_head (L : List Kd) (k : Kd) : ∃ r, (keyOf L k).map kV = .str k.hw :: r := by cases k <;> exact ⟨_, rfl⟩
section
variable {P : Program} {w : World} {K : PySem.W.Frag} {mg : Str → Option Value} {base : Heap} {a : TAd}
def spPartsK (C D : Addr) : Sp := fun vs H Q E => ∃ (t : Tb) (L : List Kd) (k : Kd) (f : Str), vs = [.ref t.tb, .int (ix L k), .str f] ∧ TbAt C H t L ∧ k ∈ L ∧ f ∈ (["pair", "seq"] : List Str) ∧
  (k.hw = f → ∀ (H' : Hp) (p : Addr), Same H H' → H' p = some (.tup ((keyOf L k).map kV).tail) → Q (.ref p) H') ∧ (¬ k.hw = f → E (.ref D) none H)
theorem ok_parts (T : TTxt K mg a) : FnOk P w K mg base (L2.CX P w) 1 a.parts.1 a.parts.2 ["self", "kind", "form"] (spPartsK a.C a.KindError) := by
  refine T.parts.F.okX sc_KindTable_parts (fun vs H Q E h => ?_) (fun cdv A outer s H vs Q E hr h => ?_)
  · obtain ⟨_, _, _, _, rfl, _⟩ := h
    rfl
  obtain ⟨t, L, k, f, rfl, hT, hk, hf, q, e⟩ := h
  have nd := sc_KindTable_parts.nd
  obtain ⟨shs, b, h1, h2, h3⟩ := hT.shape hk
  obtain ⟨dx, hob⟩ := hT.ob
  obtain ⟨r, hr3⟩ := key_head L k
  rw [hr3] at h3
  obtain ⟨w0, ew⟩ : ∃ w0, w0 = k.hw := ⟨_, rfl⟩
  have hw0 : w0 ∈ (["num", "pair", "seq"] : List Str) := by rw [ew]; cases k <;> (simp only [Kd.hw]; decide +kernel)
  rw [← ew] at h3
  refine ⟨_, (pss_cons (ps_set (i := 3) nd rfl (Or.inl rfl) (pe_ix ix_list (pe_fld (pv 0) rfl) (pv 1) (fun _ _ => rfl)))
  (pss_cons (ps_if (pt_cmpR op_ne (pe_ix ix_tup (pv 3) pe_int (fun _ _ => rfl)) (pv 2) (nomark _)) (pss_one (ps_raise rfl (takes_of rfl rfl rfl rfl) (pmk_ownA PySem.F.excBase_ValueError T.xT T.gK T.kT (raises_own T.bT T.tT) rfl (pa_cons (pe_joined (PJ.cons pe_str (PJ.cons (pe_fmt (pv 2)) (PJ.cons pe_str (PJ.cons (pe_fmt (pe_ix ix_tup (pv 3) pe_int (fun _ _ => rfl))) PJ.nil))))) pa_nil)))) pss_nil)
  (pss_one (ps_ret (pe_slice sl_tup (pv 3) (po_some pe_int) po_none))))), ?_⟩
  refine ⟨_, rfl, t.tb, a.C, dx, _, _, rfl, hob, T.cl, T.nS, tf_s _ _, _, rfl, t.sl, _, _, _, rfl, rfl, SqL.of h1, h2, ?_⟩
  refine ⟨_, rfl, b, _, _, _, rfl, rfl, .inl (.inl h3), atI_nat (j := 0) rfl, _, rfl, rfl, _, rfl, ?_⟩
  have cut1 : ∀ r : List V, r.length = 1 ∨ r.length = 2 → ∀ x : V, ¬ (HT.sIx (x :: r).length 0 (some 1) = 0 ∧ HT.sIx (x :: r).length (x :: r).length none = (x :: r).length) ∧ cutV (x :: r) (some 1) none = r := fun r hr x => by
    match r, hr with
    | [_], _ => exact ⟨fun z => absurd z.1 (show ¬ (HT.sIx 2 0 (some 1) = 0) by decide), rfl⟩
    | [_, _], _ => exact ⟨fun z => absurd z.1 (show ¬ (HT.sIx 3 0 (some 1) = 0) by decide), rfl⟩
    | [], h => simp at h
    | _ :: _ :: _ :: _, h => simp at h
  by_cases c : k.hw = f
  · refine ifF (by rw [ew, c]; simp) ?_
    have rl : r.length = 1 ∨ r.length = 2 := by
      have := congrArg List.length hr3
      simp only [List.mem_cons, List.not_mem_nil, or_false] at hf
      cases k with
      | num => rcases hf with rfl | rfl <;> exact absurd c (by decide +kernel)
      | pair _ _ => right; simp [keyOf] at this; omega
      | seq _ => left; simp [keyOf] at this; omega
    obtain ⟨c1, c2⟩ := cut1 r rl (.str w0)
    refine ⟨_, rfl, _, rfl, b, _, rfl, .inl (.inl h3), c1, fun p hp => ?_⟩
    rw [c2]
    exact q c _ p (same_new hp _) (by rw [hr3]; exact upd_same)
  · refine ifT (by simp only [Bool.not_eq_true', decide_eq_false_iff_not]; exact fun z => c (by rw [← ew]; exact V.str.inj z)) ?_
    simp only [List.mem_cons, List.not_mem_nil, or_false] at hf hw0
    have fin := e c
    clear c q e ew
    rcases hf with rfl | rfl <;> rcases hw0 with rfl | rfl | rfl <;> exact ⟨_, rfl, (by decide +kernel), _, rfl, .inl ⟨_, rfl, (by decide +kernel), _, rfl, (by decide +kernel), _, rfl, (by decide +kernel), _, rfl, b, _, _, _, rfl, rfl, .inl (.inl h3), atI_nat (j := 0) rfl, .inl ⟨_, rfl, (by decide +kernel), _, rfl, (by decide +kernel), (by show 1 ≤ sizeLine; decide), fin⟩⟩⟩
def spElem (C D : Addr) : Sp := fun vs H Q E => ∃ (t : Tb) (L : List Kd) (k : Kd), vs = [.ref t.tb, .int (ix L k)] ∧ TbAt C H t L ∧ k ∈ L ∧
  (∀ j, k = .seq j → ∀ H', Same H H' → Q (.int (ix L j)) H') ∧ ((∀ j, ¬ k = .seq j) → E (.ref D) none H)
theorem ok_element (T : TTxt K mg a) : FnOk P w K mg base (L2.CX P w) 2 a.element.1 a.element.2 ["self", "kind"] (spElem a.C a.KindError) := by
  refine T.element.F.okX sc_KindTable_element (fun vs H Q E h => ?_) (fun cdv A outer s H vs Q E hr h => ?_)
  · obtain ⟨_, _, _, rfl, _⟩ := h
    rfl
  obtain ⟨t, L, k, rfl, hT, hk, q, e⟩ := h
  have G_parts := ok_parts (P := P) (w := w) (base := base) T
  obtain ⟨dx, hob⟩ := hT.ob
  refine ⟨_, (pss_one (ps_ret (pe_ix ix_tup (pe_meth (pv 0) T.cl T.parts.m G_parts (hr.mono (by omega)) T.parts.b .nil (passes_call (takes_of rfl rfl rfl rfl) (fun _ _ _ _ h => h)) (pa_cons (pv 1) (pa_cons pe_str pa_nil))) pe_int (fun _ _ => rfl)))), ?_⟩
  refine ⟨_, rfl, t.tb, dx, _, rfl, hob, tf_no _ _ (by decide +kernel) (by decide +kernel), _, rfl, t, L, k, "seq", rfl, hT, hk, by decide +kernel, fun c H' p sm hp => ?_, fun c => e fun j z => c (by rw [z]; rfl)⟩
  cases k with
  | num => exact absurd c (by decide +kernel)
  | pair _ _ => exact absurd c (by show ¬ (("pair" : Str) = "seq"); decide +kernel)
  | seq j => exact ⟨p, _, _, _, rfl, rfl, .inl (.inl hp), atI_nat (j := 0) rfl, q j rfl H' sm⟩
def spNeed (C D : Addr) : Sp := fun vs H Q E => ∃ (t : Tb) (L : List Kd) (k l : Kd), vs = [.ref t.tb, .int (ix L k), .int (ix L l)] ∧ TbAt C H t L ∧ k ∈ L ∧ l ∈ L ∧ (k = l → Q .non H) ∧ (¬ k = l → E (.ref D) none H)
theorem hw_mem (k : Kd) : k.hw ∈ (["num", "pair", "seq"] : List Str) := by cases k <;> (simp only [Kd.hw]; decide +kernel)
theorem ok_need (T : TTxt K mg a) : FnOk P w K mg base (L2.CX P w) 1 a.need.1 a.need.2 ["self", "kind", "needed"] (spNeed a.C a.KindError) := by
  refine T.need.F.okX sc_KindTable_need (fun vs H Q E h => ?_) (fun cdv A outer s H vs Q E hr h => ?_)
  · obtain ⟨_, _, _, _, rfl, _⟩ := h
    rfl
  obtain ⟨t, L, k, l, rfl, hT, hk, hl, q, e⟩ := h
  obtain ⟨shs, b, h1, h2, h3⟩ := hT.shape hk
  obtain ⟨shs', b', h1', h2', h3'⟩ := hT.shape hl
  obtain ⟨dx, hob⟩ := hT.ob
  obtain ⟨r, hr3⟩ := key_head L k
  obtain ⟨r', hr3'⟩ := key_head L l
  rw [hr3] at h3
  rw [hr3'] at h3'
  have m1 := hw_mem k
  have m2 := hw_mem l
  generalize k.hw = w1 at h3 m1
  generalize l.hw = w2 at h3' m2
  refine ⟨_, (pss_one (ps_if (pt_cmpR op_ne (pv 1) (pv 2) (nomark _)) (pss_one (ps_raise rfl (takes_of rfl rfl rfl rfl) (pmk_ownA PySem.F.excBase_ValueError T.xT T.gK T.kT (raises_own T.bT T.tT) rfl (pa_cons (pe_joined (PJ.cons pe_str (PJ.cons (pe_fmt (pe_ix ix_tup (pe_ix ix_list (pe_fld (pv 0) rfl) (pv 1) (fun _ _ => rfl)) pe_int (fun _ _ => rfl))) (PJ.cons pe_str (PJ.cons (pe_fmt (pe_ix ix_tup (pe_ix ix_list (pe_fld (pv 0) rfl) (pv 2) (fun _ _ => rfl)) pe_int (fun _ _ => rfl))) (PJ.cons pe_str PJ.nil)))))) pa_nil)))) pss_nil)), ?_⟩
  refine ⟨_, rfl, _, rfl, rfl, _, rfl, ?_⟩
  by_cases c : k = l
  · refine ifF (by rw [c]; simp) ?_
    exact q c
  · refine ifT (by simp only [Bool.not_eq_true', decide_eq_false_iff_not]; exact fun z => c (ix_inj hk hl (V.int.inj z))) ?_
    have fin := e c
    clear c q e
    simp only [List.mem_cons, List.not_mem_nil, or_false] at m1 m2
    rcases m1 with rfl | rfl | rfl <;> rcases m2 with rfl | rfl | rfl <;> exact ⟨_, rfl, (by decide +kernel), _, rfl, t.tb, a.C, dx, _, _, rfl, hob, T.cl, T.nS, tf_s _ _, _, rfl, t.sl, _, _, _, rfl, rfl, SqL.of h1, h2, b, _, _, _, rfl, rfl, .inl (.inl h3), atI_nat (j := 0) rfl, .inl ⟨_, rfl, (by decide +kernel), _, rfl, (by decide +kernel), _, rfl, (by decide +kernel), _, rfl, t.tb, a.C, dx, _, _, rfl, hob, T.cl, T.nS, tf_s _ _, _, rfl, t.sl, _, _, _, rfl, rfl, SqL.of h1', h2', b', _, _, _, rfl, rfl, .inl (.inl h3'), atI_nat (j := 0) rfl, .inl ⟨_, rfl, (by decide +kernel), _, rfl, (by decide +kernel), _, rfl, (by decide +kernel), (by show 1 ≤ sizeLine; decide), fin⟩⟩⟩
end
end K2

namespace K2
open PySem PySem.Spec PyProof.Rows L2
def Kd.sz : Kd → Nat
  | .num => 1
  | .pair a b => a.sz + b.sz + 1
  | .seq a => a.sz + 1
def Kd.ord : Kd → List Kd
  | .num => [.num]
  | .pair a b => .pair a b :: (b.ord ++ a.ord)
  | .seq a => .seq a :: a.ord
def KdsAt (H : Hp) : List Kd → List V → Prop
  | [], [] => True
  | e :: es, v :: vs => KdAt H e v ∧ KdsAt H es vs
  | _, _ => False
theorem KdsAt.kt {H H' : Hp} (t : Kt H H') : ∀ {es : List Kd} {vs : List V}, KdsAt H es vs → KdsAt H' es vs
  | [], [], _ => trivial
  | _ :: _, _ :: _, ⟨a, b⟩ => ⟨a.kt t, b.kt t⟩
  | [], _ :: _, h => h.elim
  | _ :: _, [], h => h.elim
theorem KdsAt.len {H : Hp} : ∀ {es : List Kd} {vs : List V}, KdsAt H es vs → vs.length = es.length
  | [], [], _ => rfl
  | _ :: fs, _ :: vs, ⟨_, b⟩ => by rw [List.length_cons, List.length_cons, b.len]
  | [], _ :: _, h => h.elim
  | _ :: _, [], h => h.elim
theorem KdsAt.app {H : Hp} {fs : List Kd} {us : List V} (h : KdsAt H fs us) : ∀ {es : List Kd} {vs : List V}, KdsAt H es vs → KdsAt H (es ++ fs) (vs ++ us)
  | [], [], _ => h
  | _ :: _, _ :: _, ⟨a, b⟩ => ⟨a, KdsAt.app h b⟩
  | [], _ :: _, h => h.elim
  | _ :: _, [], h => h.elim
theorem KdsAt.get {H : Hp} : ∀ {es : List Kd} {vs : List V}, KdsAt H es vs → ∀ {i : Nat} {v : V}, vs[i]? = some v → ∃ e, es[i]? = some e ∧ KdAt H e v
  | [], [], _, _, _, e => by simp at e
  | f :: _, v :: _, ⟨a, _⟩, 0, _, e => by
    simp at e
    exact ⟨f, rfl, by rw [← e]; exact a⟩
  | _ :: _, _ :: _, ⟨_, b⟩, i + 1, _, e => b.get (i := i) (by simpa using e)
  | [], _ :: _, h, _, _, _ => h.elim
  | _ :: _, [], h, _, _, _ => h.elim
theorem KdAt.parts {H : Hp} : ∀ {k : Kd} {v : V}, KdAt H k v → ∃ b cs, v = .ref b ∧ H b = some (.tup (.str k.hw :: cs)) ∧ KdsAt H (comps k) cs
  | .num, _, ⟨a, e, h⟩ => ⟨a, [], e, h, trivial⟩
  | .pair _ _, _, ⟨a, u, w, e, h, x, y⟩ => ⟨a, [u, w], e, h, x, y, trivial⟩
  | .seq _, _, ⟨a, u, e, h, x⟩ => ⟨a, [u], e, h, x, trivial⟩
def kszs (ks : List Kd) : Nat := (ks.map Kd.sz).foldr (· + ·) 0
theorem kszs_cons (k : Kd) (ks : List Kd) : kszs (k :: ks) = k.sz + kszs ks := rfl
theorem ksz_pos (k : Kd) : 1 ≤ k.sz := by cases k <;> simp only [Kd.sz] <;> omega
theorem len_kszs (ks : List Kd) : ks.length ≤ kszs ks := by
  induction ks with
  | nil => exact Nat.le_refl _
  | cons k r ih => rw [List.length_cons, kszs_cons]; have := ksz_pos k; omega
theorem kszs_app (a b : List Kd) : kszs (a ++ b) = kszs a + kszs b := by
  induction a with
  | nil => simp [kszs]
  | cons x r ih => rw [List.cons_append, kszs_cons, kszs_cons, ih]; omega
theorem kszs_comps (k : Kd) : kszs (comps k).reverse + 1 = k.sz := by
  cases k <;> simp [comps, kszs, Kd.sz] <;> omega
theorem ord_comps (k : Kd) : k.ord = k :: (comps k).reverse.flatMap Kd.ord := by
  cases k <;> simp [comps, Kd.ord]
theorem ord_len (k : Kd) : k.ord.length = k.sz := by
  induction k with
  | num => rfl
  | pair a b iha ihb => simp only [Kd.ord, Kd.sz, List.length_cons, List.length_append]; omega
  | seq a ih => simp only [Kd.ord, Kd.sz, List.length_cons]; omega
theorem KdsAt.rev {H : Hp} : ∀ {es : List Kd} {vs : List V}, KdsAt H es vs → KdsAt H es.reverse vs.reverse
  | [], [], _ => trivial
  | e :: es, v :: vs, ⟨a, b⟩ => by
    rw [List.reverse_cons, List.reverse_cons]
    exact KdsAt.app (fs := [e]) (us := [v]) ⟨a, trivial⟩ b.rev
  | [], _ :: _, h => h.elim
  | _ :: _, [], h => h.elim
section
variable {P : Program} {w : World} {K : PySem.W.Frag} {mg : Str → Option Value} {base : Heap} {a : TAd}
def spTaken : Sp := fun vs H Q _ => ∃ (sk : Addr) (xs : List V) (m : Nat) (z : Int), vs = [.ref sk, .int z] ∧ z = m ∧ H sk = some (.lst xs) ∧ m ≤ xs.length ∧
  ∀ (H' : Hp) (p : Addr), (∀ b o, b ≠ sk → H b = some o → H' b = some o) → H p = none → H' p = some (.lst (xs.drop (xs.length - m))) → H' sk = some (.lst (xs.take (xs.length - m))) → Q (.ref p) H'
theorem ok_taken_off (T : TTxt K mg a) : FnOk P w K mg base CX0 1 a.taken_off.1 a.taken_off.2 ["stack", "many"] spTaken := by
  refine T.taken_off.F.ok sc_taken_off (fun vs H Q E h => ?_) (fun cdv A outer s H vs Q E hr h => ?_)
  · obtain ⟨_, _, _, _, rfl, _⟩ := h
    rfl
  obtain ⟨sk, xs, m, z, rfl, rfl, hs, hm, q⟩ := h
  have nd := sc_taken_off.nd
  refine ⟨_, (pss_cons (ps_set (i := 2) nd rfl (Or.inl rfl) (pe_op op_sub (pe_callB call_len_seq (by rfl) T.len PySem.boot_len (pa_cons (pv 0) pa_nil)) (pv 1)))
  (pss_cons (ps_set (i := 3) nd rfl (Or.inl rfl) (pe_slice sl_list (pv 0) (po_some (pv 2)) po_none))
  (pss_cons (DX.ps_delFrom (pv 0) (pv 2))
  (pss_one (ps_ret (pv 3)))))), ?_⟩
  have e1 : ((xs.length : Nat) : Int) - (m : Int) = ((xs.length - m : Nat) : Int) := by omega
  have cut : cutV xs (some (((xs.length : Nat) : Int) - (m : Int))) none = xs.drop (xs.length - m) := by
    rw [e1]
    unfold cutV
    rw [HT.sIx_nat, HT.sIx_none, Nat.min_eq_left (by omega)]
    exact List.take_of_length_le (by simp)
  refine ⟨_, rfl, sk, xs, rfl, .inl (SqL.of hs), _, rfl, _, _, rfl, rfl, ?_⟩
  refine ⟨_, rfl, _, rfl, _, rfl, sk, xs, rfl, SqL.of hs, fun p hp => ?_⟩
  rw [cut]
  have np : p ≠ sk := ref_ne hp hs
  refine ⟨_, rfl, _, rfl, _, rfl, sk, xs, xs.length - m, rfl, by rw [e1], (by rw [upd_ne np.symm]; exact hs), by omega, ?_⟩
  refine ⟨_, rfl, q _ p (fun b o n e => ?_) hp ?_ upd_same⟩
  · rw [upd_ne n]; exact (same_new hp _) _ _ e
  · rw [upd_ne np]; exact upd_same
def run2 : List Kd → List Kd → Option (List Kd)
  | [], st => some st
  | p :: rem, st => if st.drop (st.length - (comps p).length) = comps p then run2 rem (st.take (st.length - (comps p).length) ++ [p]) else none
theorem run2_ord : ∀ (k : Kd) (rest st : List Kd), run2 (k.ord.reverse ++ rest) st = run2 rest (st ++ [k])
  | .num, rest, st => by
    show (if st.drop (st.length - 0) = [] then run2 rest (st.take (st.length - 0) ++ [.num]) else none) = _
    rw [Nat.sub_zero, List.drop_length, if_pos rfl, List.take_length]
  | .pair a b, rest, st => by
    have e : (Kd.pair a b).ord.reverse ++ rest = a.ord.reverse ++ (b.ord.reverse ++ (.pair a b :: rest)) := by simp [Kd.ord]
    rw [e, run2_ord a, run2_ord b]
    show (if (st ++ [a] ++ [b]).drop ((st ++ [a] ++ [b]).length - 2) = [a, b] then run2 rest ((st ++ [a] ++ [b]).take ((st ++ [a] ++ [b]).length - 2) ++ [.pair a b]) else none) = _
    have l2 : (st ++ [a] ++ [b]).length - 2 = st.length := by simp
    rw [l2, List.append_assoc, List.drop_left, List.take_left]
    exact if_pos rfl
  | .seq a, rest, st => by
    have e : (Kd.seq a).ord.reverse ++ rest = a.ord.reverse ++ (.seq a :: rest) := by simp [Kd.ord]
    rw [e, run2_ord a]
    show (if (st ++ [a]).drop ((st ++ [a]).length - 1) = [a] then run2 rest ((st ++ [a]).take ((st ++ [a]).length - 1) ++ [.seq a]) else none) = _
    have l2 : (st ++ [a]).length - 1 = st.length := by simp
    rw [l2, List.drop_left, List.take_left, if_pos rfl]
theorem dropc {α : Type} {xs : List α} {i : Nat} {x : α} (h : xs[i]? = some x) : xs.drop i = x :: xs.drop (i + 1) := by
  obtain ⟨hi, e⟩ := List.getElem?_eq_some_iff.mp h
  rw [List.drop_eq_getElem_cons hi, e]
def ixs (L : List Kd) (ks : List Kd) : List V := ks.map fun k => V.int (ix L k)
theorem ixs_more {L L' : List Kd} (m : More L L') {ks : List Kd} (h : ∀ k ∈ ks, k ∈ L) : ixs L' ks = ixs L ks := List.map_congr_left fun k hk => by rw [m.ix (h k hk)]
theorem key_ixs (L : List Kd) (k : Kd) : (keyOf L k).map kV = .str k.hw :: ixs L (comps k) := by cases k <;> rfl
def spNof (C : Addr) : Sp := fun vs H Q _ => ∃ (t : Tb) (v : V) (k : Kd) (L : List Kd), vs = [.ref t.tb, v] ∧ TbAt C H t L ∧ KdAt H k v ∧ L.length + k.sz < 1000000 ∧
  ∀ (H' : Hp) (L' : List Kd), TFr t H H' → TbAt C H' t L' → More L L' → L'.length ≤ L.length + k.sz → k ∈ L' → Q (.int (ix L' k)) H'
theorem ok_number_of (T : TTxt K mg a) : FnOk P w K mg base CX0 2 a.number_of.1 a.number_of.2 ["self", "kind"] (spNof a.C) := by
  refine T.number_of.F.ok sc_KindTable_number_of (fun vs H Q E h => ?_) (fun cdv A outer s H vs Q E hr h => ?_)
  · obtain ⟨_, _, _, _, rfl, _⟩ := h
    rfl
  obtain ⟨t, v, k, L, rfl, hT, hk, hL, q⟩ := h
  have nd := sc_KindTable_number_of.nd
  have G_number := ok_number (P := P) (w := w) (base := base) T
  have G_taken_off := ok_taken_off (P := P) (w := w) (base := base) T
  have big : ∀ n, n ≤ 3000010 → n < sizeLine := fun n h => Nat.lt_of_le_of_lt h (by decide)
  refine ⟨_, (pss_cons (ps_set (i := 2) nd rfl (Or.inl rfl) (pe_lst pa_nil))
  (pss_cons (ps_set (i := 3) nd rfl (Or.inl rfl) (pe_lst (pa_cons (pv 1) pa_nil)))
  (pss_cons (ps_while PassesOwn.never (pt_truth (pv 3) (by intro _; rfl)) (pss_cons (ps_set (i := 4) nd rfl (Or.inl rfl) (pe_bm0 PySem.F.plainAttrs_list PySem.F.slot_list_pop PySem.F.type_list_pop mt_pop (pv 3)))
  (pss_cons (ps_expr (pe_bm PySem.F.plainAttrs_list PySem.F.slot_list_append PySem.F.type_list_append mt_append (pv 2) (pa_cons (pv 4) pa_nil)))
  (pss_one (ps_expr (pe_bm PySem.F.plainAttrs_list PySem.F.slot_list_extend PySem.F.type_list_extend (ET.mt_extT) (pv 3) (pa_cons (pe_slice sl_tup (pv 4) (po_some pe_int) po_none) pa_nil)))))))
  (pss_cons (ps_set (i := 5) nd rfl (Or.inl rfl) (pe_lst pa_nil))
  (pss_cons (ps_for PassesOwn.never rfl (pi_reversed (by rfl) T.reversed (pa_cons (pv 2) pa_nil)) (pg_name (i := 4) nd rfl (Or.inl rfl)) (pss_cons (ps_set (i := 6) nd rfl (Or.inl rfl) (pe_call G_taken_off (hr.mono (by omega)) rfl T.taken_off.g T.taken_off.F.kp T.taken_off.b .nil pass0 (pa_cons (pv 5) (pa_cons (pe_op op_sub (pe_callB call_len_seq (by rfl) T.len PySem.boot_len (pa_cons (pv 4) pa_nil)) pe_int) pa_nil))))
  (pss_one (ps_expr (pe_bm PySem.F.plainAttrs_list PySem.F.slot_list_append PySem.F.type_list_append mt_append (pv 5) (pa_cons (pe_meth (pv 0) T.cl T.number.m G_number (hr.mono (by omega)) T.number.b .nil pass0 (pa_cons (pe_tup (pa_cons (pe_ix ix_tup (pv 4) pe_int (fun _ _ => rfl)) (StX.pa_star (pv 6) pa_nil))) pa_nil)) pa_nil))))))
  (pss_one (ps_ret (pe_ix ix_list (pv 5) pe_int (fun _ _ => rfl))))))))), ?_⟩
  refine ⟨(by show 0 ≤ sizeLine; decide), fun od hod => ?_⟩
  have s1 := same_new hod (.lst [])
  refine ⟨_, rfl, (by show 1 ≤ sizeLine; decide), fun wt hwt => ?_⟩
  have s2 := same_new hwt (.lst [v])
  have s02 := s1.trans s2
  have ne1 : od ≠ wt := ne_of_none (upd_same (a := od) (H := H) (o := HO.lst [])) hwt
  have wt0 : H wt = none := free_of hod hwt
  refine ⟨fun n σ H' => ∃ (ws done : List Kd) (r ds : List V) (x4 : Option V), σ = [some (.ref t.tb), some v, some (.ref od), some (.ref wt), x4, none, none] ∧ n = kszs ws ∧ H' wt = some (.lst r.reverse) ∧ H' od = some (.lst ds) ∧ KdsAt H' ws r ∧ KdsAt H' done ds ∧ done ++ ws.flatMap Kd.ord = k.ord ∧ done.length + kszs ws ≤ k.sz ∧ (∀ b o, b ≠ od → b ≠ wt → H b = some o → H' b = some o),
    ⟨kszs [k], [k], [], [v], [], none, rfl, rfl, upd_same, s2 _ _ upd_same, ⟨hk.kt (Kt.of s02), trivial⟩, trivial, (by simp), (by show 0 + (k.sz + 0) ≤ k.sz; omega), fun b o _ _ e => s02 _ _ e⟩, ?_⟩
  rintro n σ H' ⟨ws, done, r, ds, x4, rfl, rfl, hwt', hod', hst, hdn, hlin, hbd, hold⟩
  have rl := hst.len
  have dl := hdn.len
  refine ⟨_, rfl, _, .inl ⟨_, SqL.of hwt', rfl⟩, ?_⟩
  match ws, r, hst with
  | [], [], _ =>
    refine ifF rfl ?_
    have hlin' : done = k.ord := by simpa using hlin
    rw [hlin'] at hdn
    refine ⟨(by show 0 ≤ sizeLine; decide), fun dn hdn0 => ?_⟩
    have hT2 : TFr t H H' := fun b o _ _ e => hold b o (ref_ne2 e hod) (ref_ne2 e wt0) e
    have hTb : TbAt a.C H' t L := hT.keep fun b o e => hold b o (ref_ne2 e hod) (ref_ne2 e wt0) e
    have s3 := same_new hdn0 (.lst [])
    have od3 := s3 _ _ hod'
    have hdn3 := hdn.kt (Kt.of s3)
    have T3 := hTb.keep s3
    have dn3 : (upd H' dn (.lst [])) dn = some (.lst []) := upd_same
    have f03 : ∀ b o, H b = some o → b ≠ dn ∧ (upd H' dn (.lst [])) b = some o := fun b o e => by
      have h1 := hold b o (ref_ne2 e hod) (ref_ne2 e wt0) e
      exact ⟨ref_ne2 h1 hdn0, s3 _ _ h1⟩
    have ndo : dn ≠ od := ref_ne hdn0 hod'
    generalize upd H' dn (.lst []) = H3 at s3 od3 hdn3 T3 dn3 f03
    obtain ⟨shs3, hs3, _⟩ := id T3.sh
    obtain ⟨kvs3, hn3, _⟩ := id T3.nu
    obtain ⟨shs0, hs0, _⟩ := id hT.sh
    obtain ⟨kvs0, hn0, _⟩ := id hT.nu
    have nd1 : dn ≠ t.sl := fun z => (f03 _ _ hs0).1 z.symm
    have nd2 : dn ≠ t.nm := fun z => (f03 _ _ hn0).1 z.symm
    have no1 : od ≠ t.sl := (ref_ne2 hs0 hod).symm
    have no2 : od ≠ t.nm := (ref_ne2 hn0 hod).symm
    have dlen : ds.length = k.sz := by rw [hdn.len, ord_len]
    refine ⟨_, rfl, od, ds, rfl, SqL.of od3, for_it walk_rev (fun i σ H4 => ∃ (L4 st : List Kd) (x4 x6 : Option V), σ = [some (.ref t.tb), some v, some (.ref od), some (.ref wt), x4, some (.ref dn), x6] ∧ H4 dn = some (.lst (ixs L4 st)) ∧ (∀ k ∈ st, k ∈ L4) ∧ st.length ≤ i ∧ TbAt a.C H4 t L4 ∧ More L L4 ∧ L4.length ≤ L.length + i ∧ run2 (k.ord.reverse.drop i) st = some [k] ∧ (∀ b o, b ≠ dn → b ≠ t.sl → b ≠ t.nm → H3 b = some o → H4 b = some o)) ⟨L, [], x4, none, rfl, dn3, fun _ h => (nomatch h), Nat.le_refl _, T3, More.refl L, Nat.le_refl _, ?_, fun _ _ _ _ _ e => e⟩ (fun i σ H4 _ h => ?_) ?_ ?_⟩
    · have := run2_ord k [] []
      rw [List.append_nil] at this
      exact this
    · obtain ⟨_, _, _, _, _, _, _, _, _, _, _, _, f⟩ := h
      exact SqL.of (f _ _ ndo.symm no1 no2 od3)
    · rintro i y σ H4o H4 hi ⟨L4, st, x4', x6, rfl, hd4, hm4, hl4, T4, ml4, ll4, hrun, fr4⟩ ⟨rfl, hy⟩
      have kt4 : Kt H3 H4 := fun b xs e => fr4 b _ (fun z => by rw [z, dn3] at e; cases e) (fun z => by rw [z, hs3] at e; cases e) (fun z => by rw [z, hn3] at e; cases e) e
      have hy2 : ds.reverse[i]? = some y := by rw [List.getElem?_reverse hi]; exact hy
      obtain ⟨p0, hp0, hpa⟩ := (hdn3.kt kt4).rev.get hy2
      obtain ⟨b, cs, rfl, hb, hcs⟩ := hpa.parts
      have cl := hcs.len
      have clk : (comps p0).length ≤ 2 := by cases p0 <;> simp [comps]
      rw [dropc hp0] at hrun
      have hrun' : (if st.drop (st.length - (comps p0).length) = comps p0 then run2 (k.ord.reverse.drop (i + 1)) (st.take (st.length - (comps p0).length) ++ [p0]) else none) = some [k] := hrun
      by_cases hc : st.drop (st.length - (comps p0).length) = comps p0
      · rw [if_pos hc] at hrun'
        have sl : (comps p0).length ≤ st.length := by
          have := congrArg List.length hc
          rw [List.length_drop] at this
          omega
        have stl : (ixs L4 st).length = st.length := by unfold ixs; rw [List.length_map]
        refine ⟨_, rfl, _, rfl, b, _, rfl, .inr (.inl (.inl hb)), _, _, rfl, rfl, dn, _, (comps p0).length, _, rfl, ?_, hd4, by rw [stl]; exact sl, fun H5 pi fr5 hpi hpi5 hd5 => ?_⟩
        · show (((V.str p0.hw :: cs).length : Nat) : Int) - 1 = _
          rw [List.length_cons, cl]; omega
        rw [stl] at hpi5 hd5
        have e5 : (ixs L4 st).drop (st.length - (comps p0).length) = ixs L4 (comps p0) := by
          unfold ixs
          rw [← List.map_drop, hc]
        have e6 : (ixs L4 st).take (st.length - (comps p0).length) = ixs L4 (st.take (st.length - (comps p0).length)) := by
          unfold ixs
          rw [← List.map_take]
        rw [e5] at hpi5
        rw [e6] at hd5
        have kt5 : Kt H4 H5 := fun b xs e => fr5 b _ (fun z => by rw [z, hd4] at e; cases e) e
        obtain ⟨shs4, hs4, _⟩ := id T4.sh
        obtain ⟨kvs4, hn4, _⟩ := id T4.nu
        have T5 : TbAt a.C H5 t L4 := by
          obtain ⟨⟨dx, q1⟩, ⟨shs, q2, q3, q4⟩, ⟨kvs, q5, q6⟩, q7⟩ := T4
          exact ⟨⟨dx, fr5 _ _ (ne_of q1 hd4 (fun z => nomatch z)) q1⟩, ⟨shs, fr5 _ _ nd1.symm q2, q3, fun i k h => let ⟨v, a1, b1, c1, d1⟩ := q4 i k h; ⟨v, a1, b1, c1, kt5 _ _ d1⟩⟩, ⟨kvs, fr5 _ _ nd2.symm q5, q6⟩, q7⟩
        obtain ⟨dx, hob⟩ := T5.ob
        have hb5 := kt5 _ _ hb
        refine ⟨_, rfl, .inl ⟨rfl, _, SqL.of hd5⟩, _, rfl, t.tb, dx, _, rfl, hob, tf_no _ _ (by decide +kernel) (by decide +kernel), _, rfl, b, _, _, _, rfl, rfl, .inl (.inl hb5), atI_nat (j := 0) rfl, _, rfl, pi, _, rfl, .inr (SqL.of hpi5), ?_, fun tq htq => ?_⟩
        · show (V.str p0.hw :: (ixs L4 (comps p0) ++ [])).length ≤ sizeLine
          rw [List.append_nil, List.length_cons]
          unfold ixs
          rw [List.length_map]
          exact Nat.le_of_lt (big _ (by omega))
        have s6 := same_new htq (.tup (V.str p0.hw :: (ixs L4 (comps p0) ++ [])))
        have T6 := T5.keep s6
        refine ⟨t, tq, L4, p0, rfl, T6, by omega, by rw [key_ixs, List.append_nil]; exact upd_same, fun c hcm => hm4 c (List.mem_of_mem_drop (by rw [hc]; exact hcm)), fun H7 L7 f7 T7 m7 l7 p7 => ?_⟩
        have hd7 := f7 _ _ nd1 nd2 (s6 _ _ hd5)
        have stk : ∀ k ∈ st.take (st.length - (comps p0).length), k ∈ L4 := fun k hk => hm4 k (List.mem_of_mem_take hk)
        have lst7 : (ixs L4 (st.take (st.length - (comps p0).length)) ++ [V.int (ix L7 p0)]) = ixs L7 (st.take (st.length - (comps p0).length) ++ [p0]) := by
          have := ixs_more m7 stk
          unfold ixs at this ⊢
          rw [List.map_append, this]; rfl
        have slen : (ixs L4 (st.take (st.length - (comps p0).length))).length ≤ i := by
          unfold ixs
          rw [List.length_map, List.length_take]; omega
        have hi6 : i < k.sz := by rw [← dlen]; exact hi
        refine ⟨dn, _, _, rfl, rfl, hd7, big _ (by omega), ?_⟩
        have nbt : ∀ {u : HO}, H7 t.tb = some u → t.tb ≠ dn := fun {u} _ => by
          obtain ⟨dx7, q1⟩ := T7.ob
          exact ne_of q1 hd7 (fun z => nomatch z)
        have kt8 : Kt H7 (upd H7 dn (.lst (ixs L4 (st.take (st.length - (comps p0).length)) ++ [V.int (ix L7 p0)]))) := fun b xs e => by
          rw [upd_ne (fun z => by rw [z, hd7] at e; cases e)]; exact e
        refine ⟨L7, st.take (st.length - (comps p0).length) ++ [p0], _, _, rfl, by rw [← lst7]; exact upd_same, fun k hk => ?_, ?_, ?_, ml4.trans m7, by omega, hrun', fun b o n1 n2 n3 e => ?_⟩
        · rcases List.mem_append.mp hk with hk | hk
          · exact m7.mem (stk k hk)
          · rw [List.mem_singleton.mp hk]; exact p7
        · rw [List.length_append, List.length_take]; show _ + 1 ≤ _; omega
        · obtain ⟨⟨dx, q1⟩, ⟨shs, q2, q3, q4⟩, ⟨kvs, q5, q6⟩, q7⟩ := T7
          exact ⟨⟨dx, by rw [upd_ne (nbt q1)]; exact q1⟩, ⟨shs, by rw [upd_ne nd1.symm]; exact q2, q3, fun i k h => let ⟨v, a1, b1, c1, d1⟩ := q4 i k h; ⟨v, a1, b1, c1, kt8 _ _ d1⟩⟩, ⟨kvs, by rw [upd_ne nd2.symm]; exact q5, q6⟩, q7⟩
        · rw [upd_ne n1]
          exact f7 _ _ n2 n3 (s6 _ _ (fr5 _ _ n1 (fr4 _ _ n1 n2 n3 e)))
      · rw [if_neg hc] at hrun'; cases hrun'
    · rintro σ H4 ⟨L4, st, x4', x6, rfl, hd4, hm4, hl4, T4, ml4, ll4, hrun, fr4⟩
      have e9 : st = [k] := by
        have : k.ord.reverse.drop ds.length = [] := by
          rw [List.drop_eq_nil_iff, List.length_reverse, ord_len, dlen]; exact Nat.le_refl _
        rw [this] at hrun
        exact Option.some.inj hrun
      rw [e9] at hd4 hm4
      refine ⟨_, rfl, dn, _, _, _, rfl, rfl, SqL.of hd4, atI_nat (j := 0) rfl, ?_⟩
      refine q H4 L4 (fun b o n1 n2 e => ?_) T4 ml4 (by rw [← dlen]; exact ll4) (hm4 k (List.mem_singleton.mpr rfl))
      obtain ⟨f1, f2⟩ := f03 b o e
      exact fr4 b o f1 n1 n2 f2
  | p0 :: ws, y :: r, ⟨hp0, hst⟩ =>
    rw [List.reverse_cons] at hwt'
    rw [kszs_cons] at hbd
    simp only [List.length_cons] at rl
    have lw := len_kszs ws
    have kc := kszs_comps p0
    refine ifT (by rw [List.reverse_cons]; cases r.reverse <;> rfl) ?_
    refine ⟨fun σ2 H2 => ∃ (ws2 done2 : List Kd) (r2 ds2 : List V) (x4 : Option V), σ2 = [some (.ref t.tb), some v, some (.ref od), some (.ref wt), x4, none, none] ∧ kszs ws2 < kszs (p0 :: ws) ∧ H2 wt = some (.lst r2.reverse) ∧ H2 od = some (.lst ds2) ∧ KdsAt H2 ws2 r2 ∧ KdsAt H2 done2 ds2 ∧ done2 ++ ws2.flatMap Kd.ord = k.ord ∧ done2.length + kszs ws2 ≤ k.sz ∧ (∀ b o, b ≠ od → b ≠ wt → H b = some o → H2 b = some o), ?_, ?_⟩
    · rintro σ2 H2 ⟨ws2, done2, r2, ds2, x4, e1, lt, rest⟩
      exact ⟨kszs ws2, lt, ws2, done2, r2, ds2, x4, e1, rfl, rest⟩
    refine ⟨_, rfl, .inl ⟨rfl, _, SqL.of hwt'⟩, wt, _, y, rfl, rfl, hwt', ?_, ?_⟩
    · rw [List.length_append]; simp
    rw [List.dropLast_concat]
    have kt2 : Kt H' (upd H' wt (.lst r.reverse)) := fun b xs e => by rw [upd_ne (fun z => by rw [z, hwt'] at e; cases e)]; exact e
    have od2 : (upd H' wt (.lst r.reverse)) od = some (.lst ds) := by rw [upd_ne ne1]; exact hod'
    have wt2 : (upd H' wt (.lst r.reverse)) wt = some (.lst r.reverse) := upd_same
    have hold2 : ∀ b o, b ≠ od → b ≠ wt → H b = some o → (upd H' wt (.lst r.reverse)) b = some o := fun b o n1 n2 e => by rw [upd_ne n2]; exact hold b o n1 n2 e
    have hst2 := hst.kt kt2
    have hdn2 := hdn.kt kt2
    have hp2 := hp0.kt kt2
    generalize upd H' wt (.lst r.reverse) = H2 at od2 wt2 hold2 hst2 hdn2 hp2
    refine ⟨_, rfl, .inl ⟨rfl, _, SqL.of od2⟩, _, rfl, od, _, _, rfl, rfl, od2, big _ (by omega), ?_⟩
    have kt3 : Kt H2 (upd H2 od (.lst (ds ++ [y]))) := fun b xs e => by rw [upd_ne (fun z => by rw [z, od2] at e; cases e)]; exact e
    have hp3 := hp2.kt kt3
    obtain ⟨b, cs, rfl, hb, hcs⟩ := hp3.parts
    have cl := hcs.len
    have clk : (comps p0).length ≤ 2 := by cases p0 <;> simp [comps]
    have wt3 : (upd H2 od (.lst (ds ++ [.ref b]))) wt = some (.lst r.reverse) := by rw [upd_ne ne1.symm]; exact wt2
    have cut1 : ¬ (HT.sIx (V.str p0.hw :: cs).length 0 (some 1) = 0 ∧ HT.sIx (V.str p0.hw :: cs).length (V.str p0.hw :: cs).length none = (V.str p0.hw :: cs).length) ∧ cutV (V.str p0.hw :: cs) (some 1) none = cs := by
      have e1 : HT.sIx (V.str p0.hw :: cs).length 0 (some ((1 : Nat) : Int)) = min 1 (cs.length + 1) := by rw [HT.sIx_nat, List.length_cons]
      have e2 : HT.sIx (V.str p0.hw :: cs).length 0 (some 1) = 1 := by
        have : min 1 (cs.length + 1) = 1 := by omega
        rw [this] at e1; exact e1
      refine ⟨fun z => by rw [e2] at z; exact absurd z.1 (by decide), ?_⟩
      unfold cutV
      rw [e2, HT.sIx_none]
      exact List.take_of_length_le (by simp)
    refine ⟨_, rfl, .inl ⟨rfl, _, SqL.of wt3⟩, _, rfl, _, rfl, b, _, rfl, .inl (.inl hb), cut1.1, fun tp htp => ?_⟩
    rw [cut1.2]
    have s4 := same_new htp (.tup cs)
    have wt4 := s4 _ _ wt3
    refine ⟨wt, tp, _, _, rfl, rfl, wt4, .inl (.inl upd_same), ?_, ?_⟩
    · rw [List.length_reverse]; exact Nat.le_of_lt (big _ (by omega))
    have kt4 := Kt.of s4
    have kt5 : Kt (upd (upd H2 od (.lst (ds ++ [.ref b]))) tp (.tup cs)) (upd (upd (upd H2 od (.lst (ds ++ [.ref b]))) tp (.tup cs)) wt (.lst (r.reverse ++ cs))) := fun b xs e => by
      rw [upd_ne (fun z => by rw [z, wt4] at e; cases e)]; exact e
    have kt35 := kt3.trans (kt4.trans kt5)
    have kt45 := kt4.trans kt5
    refine ⟨(comps p0).reverse ++ ws, done ++ [p0], cs.reverse ++ r, ds ++ [.ref b], _, rfl, ?_, ?_, ?_, KdsAt.app (hst2.kt kt35) (hcs.kt kt45).rev, KdsAt.app (fs := [p0]) (us := [.ref b]) ⟨hp2.kt kt35, trivial⟩ (hdn2.kt kt35), ?_, ?_, fun b o n1 n2 e => ?_⟩
    · rw [kszs_app, kszs_cons]; omega
    · rw [upd_same, List.reverse_append, List.reverse_reverse]
    · rw [upd_ne ne1]; exact s4 _ _ upd_same
    · rw [List.flatMap_append, ← hlin, List.flatMap_cons, ord_comps p0]; simp
    · rw [List.length_append, kszs_app]; show done.length + 1 + _ ≤ _; omega
    · rw [upd_ne n2]
      refine s4 _ _ ?_
      rw [upd_ne n1]; exact hold2 b o n1 n2 e
end
end K2

namespace K2
open PySem PySem.Spec PyProof.Rows L2
theorem pe_gv {X : Cx} {x : Str} {v : V} {pos : Pos} (hg : Gl X x) (h : ∃ u, X.mg x = some u ∧ RelV v u) (hd : (x == ("__debug__" : Str)) = false := by decide) : PE X (.Name x pos) (tC v) := by
  obtain ⟨u, a, b⟩ := h
  exact pe_glob hg a b hd
section
variable {P : Program} {w : World} {K : PySem.W.Frag} {mg : Str → Option Value} {base : Heap} {a : TAd}
def spTInit (C : Addr) : Sp := fun vs H Q _ => ∃ (tb dx : Addr), vs = [.ref tb] ∧ H tb = some (.ins C dx []) ∧
  ∀ (H' : Hp) (sl nm : Addr), (∀ b o, b ≠ tb → H b = some o → H' b = some o) → H sl = none → H nm = none → TbAt C H' ⟨tb, sl, nm⟩ [.num] → Q .non H'
theorem ok_tinit (T : TTxt K mg a) : FnOk P w K mg base CX0 1 a.init.1 a.init.2 ["self"] (spTInit a.C) := by
  refine T.iF.ok sc_KindTable___init__ (fun vs H Q E h => ?_) (fun cdv A outer s H vs Q E hr h => ?_)
  · obtain ⟨_, _, rfl, _⟩ := h
    rfl
  obtain ⟨tb, dx, rfl, hob, q⟩ := h
  have nd := sc_KindTable___init__.nd
  have hu := hu_of hr
  refine ⟨_, (pss_cons (ps_fld (pv 0) (pe_lst (pa_cons (pe_tup (pa_cons pe_str pa_nil)) pa_nil)) rfl) (pss_one (ps_fld (pv 0) (DT.pe_dispT hu (pe_tup (pa_cons pe_str pa_nil)) (pe_gv rfl T.num)) rfl))), ?_⟩
  refine ⟨(by show 1 ≤ sizeLine; decide), fun t1 ht1 => ⟨(by show 1 ≤ sizeLine; decide), fun sl hsl => ?_⟩⟩
  have s1 := same_new ht1 (.tup [.str "num"])
  have s2 := same_new hsl (.lst [.ref t1])
  have n1 : tb ≠ sl := ne_of_none (s1 _ _ hob) hsl
  refine ⟨_, rfl, tb, a.C, dx, _, rfl, s2 _ _ (s1 _ _ hob), T.cl, T.nS, (by show 0 < 1000; decide), ?_⟩
  intro nm hnm
  have hnm' : (upd (upd H t1 (.tup [.str "num"])) sl (.lst [.ref t1])) nm = none := by
    by_cases z : nm = tb
    · rw [z, upd_same] at hnm; cases hnm
    · rw [upd_ne z] at hnm; exact hnm
  have n2 : tb ≠ nm := ne_of_none (s2 _ _ (s1 _ _ hob)) hnm'
  refine ⟨(by show 1 ≤ sizeLine; decide), fun t2 ht2 => ?_⟩
  refine ⟨t2, [.inr "num"], rfl, upd_same, ?_, ?_⟩
  · rw [upd_ne (ne_of_none upd_same ht2)]; exact upd_same
  obtain ⟨H3, e3⟩ : ∃ H3, H3 = upd (upd (upd (upd (upd (upd H t1 (.tup [.str "num"])) sl (.lst [.ref t1])) tb (.ins a.C dx (putF "shapes" (.ref sl) []))) nm (.dT [])) t2 (.tup [.str "num"])) nm (.dT [([.inr "num"], V.int 0)]) := ⟨_, rfl⟩
  have tb3 : H3 tb = some (.ins a.C dx (putF "shapes" (.ref sl) [])) := by
    have h0 : (upd (upd (upd (upd H t1 (.tup [.str "num"])) sl (.lst [.ref t1])) tb (.ins a.C dx (putF "shapes" (.ref sl) []))) nm (.dT [])) tb = some (.ins a.C dx (putF "shapes" (.ref sl) [])) := by rw [upd_ne n2]; exact upd_same
    rw [e3, upd_ne n2, upd_ne (ne_of_none h0 ht2)]; exact h0
  refine ⟨_, rfl, tb, a.C, dx, _, rfl, by rw [← e3]; exact tb3, T.cl, T.nN, (by show 1 < 1000; decide), ?_⟩
  rw [← e3]
  have hsl0 : H sl = none := free_of ht1 hsl
  have hnm0 : H nm = none := free_of ht1 (free_of hsl hnm')
  have nsn : sl ≠ nm := ne_of_none upd_same hnm'
  have keep : ∀ b o, b ≠ tb → (upd (upd H t1 (.tup [.str "num"])) sl (.lst [.ref t1])) b = some o → (upd H3 tb (.ins a.C dx (putF "numbers" (.ref nm) (putF "shapes" (.ref sl) [])))) b = some o := fun b o n e => by
    have nb : b ≠ nm := ref_ne2 e hnm'
    have h0 : (upd (upd (upd (upd H t1 (.tup [.str "num"])) sl (.lst [.ref t1])) tb (.ins a.C dx (putF "shapes" (.ref sl) []))) nm (.dT [])) b = some o := by rw [upd_ne nb, upd_ne n]; exact e
    rw [upd_ne n, e3, upd_ne nb, upd_ne (ne_of_none h0 ht2)]; exact h0
  refine q _ sl nm (fun b o n e => keep b o n (s2 _ _ (s1 _ _ e))) hsl0 hnm0 ⟨⟨dx, upd_same⟩, ⟨[.ref t1], keep _ _ n1.symm upd_same, rfl, fun i k h => ?_⟩, ⟨_, by rw [upd_ne n2.symm, e3]; exact upd_same, rfl, fun k hk => ?_, fun key v e => ?_⟩, ⟨by simp, rfl, fun k hk c hc => ?_⟩⟩
  · have nt : t1 ≠ tb := (ne_of_none hob ht1).symm
    match i, h with
    | 0, h =>
      cases h
      exact ⟨_, rfl, t1, rfl, keep _ _ nt (s2 _ _ upd_same)⟩
    | i + 1, h => simp at h
  · rw [List.mem_singleton.mp hk]; rfl
  · by_cases c : key = [.inr "num"]
    · exact ⟨.num, List.mem_singleton.mpr rfl, c⟩
    · rw [valV_neg (fun z => c z.symm)] at e; cases e
  · rw [List.mem_singleton.mp hk] at hc; cases hc
end
end K2

namespace K2
open PySem PySem.Spec PyProof.Rows L2
/-! ### the rules of the forms -/
def R_let : List Kd → Option Kd
  | [_, b] => some b
  | _ => none
def R_if : List Kd → Option Kd
  | [c, k, o] => if c = .num then (if o = k then some k else none) else none
  | _ => none
def R_pair : List Kd → Option Kd
  | [a, b] => some (.pair a b)
  | _ => none
def R_first : List Kd → Option Kd
  | [.pair a _] => some a
  | _ => none
def R_second : List Kd → Option Kd
  | [.pair _ b] => some b
  | _ => none
def R_each : List Kd → Option Kd
  | [_, b] => some (.seq b)
  | _ => none
def R_iota : List Kd → Option Kd
  | [k] => if k = .num then some (.seq .num) else none
  | _ => none
def R_len : List Kd → Option Kd
  | [.seq _] => some .num
  | _ => none
def R_at : List Kd → Option Kd
  | [.seq j, a] => if a = .num then some j else none
  | _ => none
def R_sum : List Kd → Option Kd
  | [.seq j] => if j = .num then some .num else none
  | _ => none
def R_flat : List Kd → Option Kd
  | [.seq (.seq j)] => some (.seq j)
  | _ => none
def R_keep : List Kd → Option Kd
  | [.seq j, .seq l] => if l = .num then some (.seq j) else none
  | _ => none
def R_append : List Kd → Option Kd
  | [.seq j, o] => if o = .seq j then some (.seq j) else none
  | _ => none
structure RAd where
  k_let : Addr × FuncData
  k_if : Addr × FuncData
  k_pair : Addr × FuncData
  k_first : Addr × FuncData
  k_second : Addr × FuncData
  k_each : Addr × FuncData
  k_iota : Addr × FuncData
  k_len : Addr × FuncData
  k_at : Addr × FuncData
  k_sum : Addr × FuncData
  k_flat : Addr × FuncData
  k_keep : Addr × FuncData
  k_append : Addr × FuncData
structure RTxt (K : PySem.W.Frag) (mg : Str → Option Value) (a : TAd) (r : RAd) : Prop where
  T : TTxt K mg a
  k_let : DefAt K mg "kind_of_let" s_kind_of_let ["table", "parts"] r.k_let
  k_if : DefAt K mg "kind_of_if" s_kind_of_if ["table", "parts"] r.k_if
  k_pair : DefAt K mg "kind_of_pair" s_kind_of_pair ["table", "parts"] r.k_pair
  k_first : DefAt K mg "kind_of_first" s_kind_of_first ["table", "parts"] r.k_first
  k_second : DefAt K mg "kind_of_second" s_kind_of_second ["table", "parts"] r.k_second
  k_each : DefAt K mg "kind_of_each" s_kind_of_each ["table", "parts"] r.k_each
  k_iota : DefAt K mg "kind_of_iota" s_kind_of_iota ["table", "parts"] r.k_iota
  k_len : DefAt K mg "kind_of_len" s_kind_of_len ["table", "parts"] r.k_len
  k_at : DefAt K mg "kind_of_at" s_kind_of_at ["table", "parts"] r.k_at
  k_sum : DefAt K mg "kind_of_sum" s_kind_of_sum ["table", "parts"] r.k_sum
  k_flat : DefAt K mg "kind_of_flat" s_kind_of_flat ["table", "parts"] r.k_flat
  k_keep : DefAt K mg "kind_of_keep" s_kind_of_keep ["table", "parts"] r.k_keep
  k_append : DefAt K mg "kind_of_append" s_kind_of_append ["table", "parts"] r.k_append
theorem TbAt.num_mem {C : Addr} {H : Hp} {t : Tb} {L : List Kd} (h : TbAt C H t L) : Kd.num ∈ L := List.mem_of_getElem? h.ok.z
theorem TbAt.ix_num {C : Addr} {H : Hp} {t : Tb} {L : List Kd} (h : TbAt C H t L) : ix L .num = 0 := ix_at h.ok.nd h.ok.z
section
variable {P : Program} {w : World} {K : PySem.W.Frag} {mg : Str → Option Value} {base : Heap} {a : TAd} {r : RAd}
def spR (C D : Addr) (n : Nat) (R : List Kd → Option Kd) : Sp := fun vs H Q E => ∃ (t : Tb) (pl : Addr) (L ps : List Kd), vs = [.ref t.tb, .ref pl] ∧ TbAt C H t L ∧ L.length < 1000000 ∧ H pl = some (.lst (ixs L ps)) ∧ ps.length = n ∧ (∀ k ∈ ps, k ∈ L) ∧ pl ≠ t.sl ∧
  (∀ k, R ps = some k → ∀ (H' : Hp) (L' : List Kd), TFr t H H' → TbAt C H' t L' → More L L' → L'.length ≤ L.length + 1 → k ∈ L' → Q (.int (ix L' k)) H') ∧ (R ps = none → ∀ H', Same H H' → E (.ref D) none H')
theorem ok_k_let (T0 : RTxt K mg a r) : FnOk P w K mg base (L2.CX P w) 3 r.k_let.1 r.k_let.2 ["table", "parts"] (spR a.C a.KindError 2 R_let) := by
  refine T0.k_let.F.okX sc_kind_of_let (fun vs H Q E h => ?_) (fun cdv A outer s H vs Q E hr h => ?_)
  · obtain ⟨_, _, _, _, rfl, _⟩ := h
    rfl
  obtain ⟨t, pl, L, ps, rfl, hT, hL, hpl, hn, hps, hns, q, e⟩ := h
  have T := T0.T
  have nd := sc_kind_of_let.nd
  have G_need := ok_need (P := P) (w := w) (base := base) T
  have G_element := ok_element (P := P) (w := w) (base := base) T
  have G_parts := ok_parts (P := P) (w := w) (base := base) T
  have G_pair := ok_pair (P := P) (w := w) (base := base) T
  have G_seq := ok_seq (P := P) (w := w) (base := base) T
  obtain ⟨dx, hob⟩ := hT.ob
  have nm := hT.num_mem
  have n0 := hT.ix_num
  match ps, hn with
  | [p0, p1], _ =>
    have m0 : p0 ∈ L := hps _ (by simp)
    have m1 : p1 ∈ L := hps _ (by simp)
    refine ⟨_, (pss_one (ps_ret (pe_ix ix_list (pv 1) pe_int (fun _ _ => rfl)))), ?_⟩
    exact ⟨_, rfl, pl, _, _, _, rfl, rfl, SqL.of hpl, atI_nat (j := 1) rfl, q p1 rfl H L (fun _ _ _ _ e => e) hT (More.refl L) (by omega) m1⟩
theorem ok_k_if (T0 : RTxt K mg a r) : FnOk P w K mg base (L2.CX P w) 3 r.k_if.1 r.k_if.2 ["table", "parts"] (spR a.C a.KindError 3 R_if) := by
  refine T0.k_if.F.okX sc_kind_of_if (fun vs H Q E h => ?_) (fun cdv A outer s H vs Q E hr h => ?_)
  · obtain ⟨_, _, _, _, rfl, _⟩ := h
    rfl
  obtain ⟨t, pl, L, ps, rfl, hT, hL, hpl, hn, hps, hns, q, e⟩ := h
  have T := T0.T
  have nd := sc_kind_of_if.nd
  have G_need := ok_need (P := P) (w := w) (base := base) T
  have G_element := ok_element (P := P) (w := w) (base := base) T
  have G_parts := ok_parts (P := P) (w := w) (base := base) T
  have G_pair := ok_pair (P := P) (w := w) (base := base) T
  have G_seq := ok_seq (P := P) (w := w) (base := base) T
  obtain ⟨dx, hob⟩ := hT.ob
  have nm := hT.num_mem
  have n0 := hT.ix_num
  match ps, hn with
  | [p0, p1, p2], _ =>
    have m0 : p0 ∈ L := hps _ (by simp)
    have m1 : p1 ∈ L := hps _ (by simp)
    have m2 : p2 ∈ L := hps _ (by simp)
    refine ⟨_, (pss_cons (ps_asg (pv 1) (pg_lst rfl (pgs_cons (pg_name (i := 2) nd rfl (Or.inl rfl)) (pgs_cons (pg_name (i := 3) nd rfl (Or.inl rfl)) (pgs_cons (pg_name (i := 4) nd rfl (Or.inl rfl)) pgs_nil)))))
  (pss_cons (ps_expr (pe_meth (pv 0) T.cl T.need.m G_need (hr.mono (by omega)) T.need.b .nil (passes_call (takes_of rfl rfl rfl rfl) (fun _ _ _ _ h => h)) (pa_cons (pv 2) (pa_cons (pe_gv rfl T.num) pa_nil))))
  (pss_cons (ps_expr (pe_meth (pv 0) T.cl T.need.m G_need (hr.mono (by omega)) T.need.b .nil (passes_call (takes_of rfl rfl rfl rfl) (fun _ _ _ _ h => h)) (pa_cons (pv 4) (pa_cons (pv 3) pa_nil))))
  (pss_one (ps_ret (pv 3)))))), ?_⟩
    refine ⟨_, rfl, pl, _, rfl, SqL.of hpl, rfl, _, _, rfl, _, _, rfl, _, _, rfl, rfl, ?_⟩
    refine ⟨_, rfl, t.tb, dx, _, rfl, hob, tf_no _ _ (by decide +kernel) (by decide +kernel), _, rfl, t, L, p0, .num, by rw [n0]; rfl, hT, m0, nm, fun c => ?_, fun c => e (if_neg c) H (Same.refl H)⟩
    refine ⟨_, rfl, t.tb, dx, _, rfl, hob, tf_no _ _ (by decide +kernel) (by decide +kernel), _, rfl, _, rfl, t, L, p2, p1, rfl, hT, m2, m1, fun c2 => ?_, fun c2 => e ((if_pos c).trans (if_neg c2)) H (Same.refl H)⟩
    exact ⟨_, rfl, q _ ((if_pos c).trans (if_pos c2)) H L (fun _ _ _ _ e => e) hT (More.refl L) (by omega) m1⟩
theorem ok_k_pair (T0 : RTxt K mg a r) : FnOk P w K mg base (L2.CX P w) 3 r.k_pair.1 r.k_pair.2 ["table", "parts"] (spR a.C a.KindError 2 R_pair) := by
  refine T0.k_pair.F.okX sc_kind_of_pair (fun vs H Q E h => ?_) (fun cdv A outer s H vs Q E hr h => ?_)
  · obtain ⟨_, _, _, _, rfl, _⟩ := h
    rfl
  obtain ⟨t, pl, L, ps, rfl, hT, hL, hpl, hn, hps, hns, q, e⟩ := h
  have T := T0.T
  have nd := sc_kind_of_pair.nd
  have G_need := ok_need (P := P) (w := w) (base := base) T
  have G_element := ok_element (P := P) (w := w) (base := base) T
  have G_parts := ok_parts (P := P) (w := w) (base := base) T
  have G_pair := ok_pair (P := P) (w := w) (base := base) T
  have G_seq := ok_seq (P := P) (w := w) (base := base) T
  obtain ⟨dx, hob⟩ := hT.ob
  have nm := hT.num_mem
  have n0 := hT.ix_num
  match ps, hn with
  | [p0, p1], _ =>
    have m0 : p0 ∈ L := hps _ (by simp)
    have m1 : p1 ∈ L := hps _ (by simp)
    refine ⟨_, (pss_one (ps_ret (pe_meth (pv 0) T.cl T.pair.m G_pair (hr.mono (by omega)) T.pair.b .nil pass0 (pa_cons (pe_ix ix_list (pv 1) pe_int (fun _ _ => rfl)) (pa_cons (pe_ix ix_list (pv 1) pe_int (fun _ _ => rfl)) pa_nil))))), ?_⟩
    exact ⟨_, rfl, t.tb, dx, _, rfl, hob, tf_no _ _ (by decide +kernel) (by decide +kernel), _, rfl, pl, _, _, _, rfl, rfl, SqL.of hpl, atI_nat (j := 0) rfl, _, rfl, pl, _, _, _, rfl, rfl, SqL.of hpl, atI_nat (j := 1) rfl, t, L, p0, p1, rfl, hT, hL, m0, m1, fun H2 L2 f T2 m l k => q _ rfl H2 L2 f T2 m l k⟩
theorem ok_k_first (T0 : RTxt K mg a r) : FnOk P w K mg base (L2.CX P w) 3 r.k_first.1 r.k_first.2 ["table", "parts"] (spR a.C a.KindError 1 R_first) := by
  refine T0.k_first.F.okX sc_kind_of_first (fun vs H Q E h => ?_) (fun cdv A outer s H vs Q E hr h => ?_)
  · obtain ⟨_, _, _, _, rfl, _⟩ := h
    rfl
  obtain ⟨t, pl, L, ps, rfl, hT, hL, hpl, hn, hps, hns, q, e⟩ := h
  have T := T0.T
  have nd := sc_kind_of_first.nd
  have G_need := ok_need (P := P) (w := w) (base := base) T
  have G_element := ok_element (P := P) (w := w) (base := base) T
  have G_parts := ok_parts (P := P) (w := w) (base := base) T
  have G_pair := ok_pair (P := P) (w := w) (base := base) T
  have G_seq := ok_seq (P := P) (w := w) (base := base) T
  obtain ⟨dx, hob⟩ := hT.ob
  have nm := hT.num_mem
  have n0 := hT.ix_num
  match ps, hn with
  | [p0], _ =>
    have m0 : p0 ∈ L := hps _ (by simp)
    refine ⟨_, (pss_one (ps_ret (pe_ix ix_tup (pe_meth (pv 0) T.cl T.parts.m G_parts (hr.mono (by omega)) T.parts.b .nil (passes_call (takes_of rfl rfl rfl rfl) (fun _ _ _ _ h => h)) (pa_cons (pe_ix ix_list (pv 1) pe_int (fun _ _ => rfl)) (pa_cons pe_str pa_nil))) pe_int (fun _ _ => rfl)))), ?_⟩
    refine ⟨_, rfl, t.tb, dx, _, rfl, hob, tf_no _ _ (by decide +kernel) (by decide +kernel), _, rfl, pl, _, _, _, rfl, rfl, SqL.of hpl, atI_nat (j := 0) rfl, t, L, p0, "pair", rfl, hT, m0, by decide +kernel, fun c H' p sm hp => ?_, fun c => ?_⟩
    · cases p0 with
      | num => exact absurd c (by show ¬ (("num" : Str) = "pair"); decide +kernel)
      | seq _ => exact absurd c (by show ¬ (("seq" : Str) = "pair"); decide +kernel)
      | pair x y => exact ⟨p, _, _, _, rfl, rfl, .inl (.inl hp), atI_nat (j := 0) rfl, q _ rfl H' L (TFr.of sm) (hT.keep sm) (More.refl L) (by omega) (hT.ok.cl _ m0 _ (by simp [comps]))⟩
    · cases p0 with
      | num => exact e rfl H (Same.refl H)
      | seq _ => exact e rfl H (Same.refl H)
      | pair x y => exact absurd rfl c
theorem ok_k_second (T0 : RTxt K mg a r) : FnOk P w K mg base (L2.CX P w) 3 r.k_second.1 r.k_second.2 ["table", "parts"] (spR a.C a.KindError 1 R_second) := by
  refine T0.k_second.F.okX sc_kind_of_second (fun vs H Q E h => ?_) (fun cdv A outer s H vs Q E hr h => ?_)
  · obtain ⟨_, _, _, _, rfl, _⟩ := h
    rfl
  obtain ⟨t, pl, L, ps, rfl, hT, hL, hpl, hn, hps, hns, q, e⟩ := h
  have T := T0.T
  have nd := sc_kind_of_second.nd
  have G_need := ok_need (P := P) (w := w) (base := base) T
  have G_element := ok_element (P := P) (w := w) (base := base) T
  have G_parts := ok_parts (P := P) (w := w) (base := base) T
  have G_pair := ok_pair (P := P) (w := w) (base := base) T
  have G_seq := ok_seq (P := P) (w := w) (base := base) T
  obtain ⟨dx, hob⟩ := hT.ob
  have nm := hT.num_mem
  have n0 := hT.ix_num
  match ps, hn with
  | [p0], _ =>
    have m0 : p0 ∈ L := hps _ (by simp)
    refine ⟨_, (pss_one (ps_ret (pe_ix ix_tup (pe_meth (pv 0) T.cl T.parts.m G_parts (hr.mono (by omega)) T.parts.b .nil (passes_call (takes_of rfl rfl rfl rfl) (fun _ _ _ _ h => h)) (pa_cons (pe_ix ix_list (pv 1) pe_int (fun _ _ => rfl)) (pa_cons pe_str pa_nil))) pe_int (fun _ _ => rfl)))), ?_⟩
    refine ⟨_, rfl, t.tb, dx, _, rfl, hob, tf_no _ _ (by decide +kernel) (by decide +kernel), _, rfl, pl, _, _, _, rfl, rfl, SqL.of hpl, atI_nat (j := 0) rfl, t, L, p0, "pair", rfl, hT, m0, by decide +kernel, fun c H' p sm hp => ?_, fun c => ?_⟩
    · cases p0 with
      | num => exact absurd c (by show ¬ (("num" : Str) = "pair"); decide +kernel)
      | seq _ => exact absurd c (by show ¬ (("seq" : Str) = "pair"); decide +kernel)
      | pair x y => exact ⟨p, _, _, _, rfl, rfl, .inl (.inl hp), atI_nat (j := 1) rfl, q _ rfl H' L (TFr.of sm) (hT.keep sm) (More.refl L) (by omega) (hT.ok.cl _ m0 _ (by simp [comps]))⟩
    · cases p0 with
      | num => exact e rfl H (Same.refl H)
      | seq _ => exact e rfl H (Same.refl H)
      | pair x y => exact absurd rfl c
theorem ok_k_each (T0 : RTxt K mg a r) : FnOk P w K mg base (L2.CX P w) 3 r.k_each.1 r.k_each.2 ["table", "parts"] (spR a.C a.KindError 2 R_each) := by
  refine T0.k_each.F.okX sc_kind_of_each (fun vs H Q E h => ?_) (fun cdv A outer s H vs Q E hr h => ?_)
  · obtain ⟨_, _, _, _, rfl, _⟩ := h
    rfl
  obtain ⟨t, pl, L, ps, rfl, hT, hL, hpl, hn, hps, hns, q, e⟩ := h
  have T := T0.T
  have nd := sc_kind_of_each.nd
  have G_need := ok_need (P := P) (w := w) (base := base) T
  have G_element := ok_element (P := P) (w := w) (base := base) T
  have G_parts := ok_parts (P := P) (w := w) (base := base) T
  have G_pair := ok_pair (P := P) (w := w) (base := base) T
  have G_seq := ok_seq (P := P) (w := w) (base := base) T
  obtain ⟨dx, hob⟩ := hT.ob
  have nm := hT.num_mem
  have n0 := hT.ix_num
  match ps, hn with
  | [p0, p1], _ =>
    have m0 : p0 ∈ L := hps _ (by simp)
    have m1 : p1 ∈ L := hps _ (by simp)
    refine ⟨_, (pss_one (ps_ret (pe_meth (pv 0) T.cl T.seq.m G_seq (hr.mono (by omega)) T.seq.b .nil pass0 (pa_cons (pe_ix ix_list (pv 1) pe_int (fun _ _ => rfl)) pa_nil)))), ?_⟩
    exact ⟨_, rfl, t.tb, dx, _, rfl, hob, tf_no _ _ (by decide +kernel) (by decide +kernel), _, rfl, pl, _, _, _, rfl, rfl, SqL.of hpl, atI_nat (j := 1) rfl, t, L, p1, rfl, hT, hL, m1, fun H2 L2 f T2 m l k => q _ rfl H2 L2 f T2 m l k⟩
theorem ok_k_iota (T0 : RTxt K mg a r) : FnOk P w K mg base (L2.CX P w) 3 r.k_iota.1 r.k_iota.2 ["table", "parts"] (spR a.C a.KindError 1 R_iota) := by
  refine T0.k_iota.F.okX sc_kind_of_iota (fun vs H Q E h => ?_) (fun cdv A outer s H vs Q E hr h => ?_)
  · obtain ⟨_, _, _, _, rfl, _⟩ := h
    rfl
  obtain ⟨t, pl, L, ps, rfl, hT, hL, hpl, hn, hps, hns, q, e⟩ := h
  have T := T0.T
  have nd := sc_kind_of_iota.nd
  have G_need := ok_need (P := P) (w := w) (base := base) T
  have G_element := ok_element (P := P) (w := w) (base := base) T
  have G_parts := ok_parts (P := P) (w := w) (base := base) T
  have G_pair := ok_pair (P := P) (w := w) (base := base) T
  have G_seq := ok_seq (P := P) (w := w) (base := base) T
  obtain ⟨dx, hob⟩ := hT.ob
  have nm := hT.num_mem
  have n0 := hT.ix_num
  match ps, hn with
  | [p0], _ =>
    have m0 : p0 ∈ L := hps _ (by simp)
    refine ⟨_, (pss_cons (ps_expr (pe_meth (pv 0) T.cl T.need.m G_need (hr.mono (by omega)) T.need.b .nil (passes_call (takes_of rfl rfl rfl rfl) (fun _ _ _ _ h => h)) (pa_cons (pe_ix ix_list (pv 1) pe_int (fun _ _ => rfl)) (pa_cons (pe_gv rfl T.num) pa_nil))))
  (pss_one (ps_ret (pe_meth (pv 0) T.cl T.seq.m G_seq (hr.mono (by omega)) T.seq.b .nil pass0 (pa_cons (pe_gv rfl T.num) pa_nil))))), ?_⟩
    refine ⟨_, rfl, t.tb, dx, _, rfl, hob, tf_no _ _ (by decide +kernel) (by decide +kernel), _, rfl, pl, _, _, _, rfl, rfl, SqL.of hpl, atI_nat (j := 0) rfl, t, L, p0, .num, by rw [n0]; rfl, hT, m0, nm, fun c => ?_, fun c => e (if_neg c) H (Same.refl H)⟩
    exact ⟨_, rfl, t.tb, dx, _, rfl, hob, tf_no _ _ (by decide +kernel) (by decide +kernel), t, L, .num, by rw [n0]; rfl, hT, hL, nm, fun H2 L2 f T2 m l k => q _ (if_pos c) H2 L2 f T2 m l k⟩
theorem ok_k_len (T0 : RTxt K mg a r) : FnOk P w K mg base (L2.CX P w) 3 r.k_len.1 r.k_len.2 ["table", "parts"] (spR a.C a.KindError 1 R_len) := by
  refine T0.k_len.F.okX sc_kind_of_len (fun vs H Q E h => ?_) (fun cdv A outer s H vs Q E hr h => ?_)
  · obtain ⟨_, _, _, _, rfl, _⟩ := h
    rfl
  obtain ⟨t, pl, L, ps, rfl, hT, hL, hpl, hn, hps, hns, q, e⟩ := h
  have T := T0.T
  have nd := sc_kind_of_len.nd
  have G_need := ok_need (P := P) (w := w) (base := base) T
  have G_element := ok_element (P := P) (w := w) (base := base) T
  have G_parts := ok_parts (P := P) (w := w) (base := base) T
  have G_pair := ok_pair (P := P) (w := w) (base := base) T
  have G_seq := ok_seq (P := P) (w := w) (base := base) T
  obtain ⟨dx, hob⟩ := hT.ob
  have nm := hT.num_mem
  have n0 := hT.ix_num
  match ps, hn with
  | [p0], _ =>
    have m0 : p0 ∈ L := hps _ (by simp)
    refine ⟨_, (pss_cons (ps_expr (pe_meth (pv 0) T.cl T.element.m G_element (hr.mono (by omega)) T.element.b .nil (passes_call (takes_of rfl rfl rfl rfl) (fun _ _ _ _ h => h)) (pa_cons (pe_ix ix_list (pv 1) pe_int (fun _ _ => rfl)) pa_nil)))
  (pss_one (ps_ret (pe_gv rfl T.num)))), ?_⟩
    refine ⟨_, rfl, t.tb, dx, _, rfl, hob, tf_no _ _ (by decide +kernel) (by decide +kernel), _, rfl, pl, _, _, _, rfl, rfl, SqL.of hpl, atI_nat (j := 0) rfl, t, L, p0, rfl, hT, m0, fun j ej H' sm => ?_, fun nj => e (by cases p0 <;> first | rfl | exact absurd rfl (nj _)) H (Same.refl H)⟩
    subst ej
    have z := q .num rfl H' L (TFr.of sm) (hT.keep sm) (More.refl L) (by omega) nm
    rw [n0] at z
    exact z
theorem ok_k_at (T0 : RTxt K mg a r) : FnOk P w K mg base (L2.CX P w) 3 r.k_at.1 r.k_at.2 ["table", "parts"] (spR a.C a.KindError 2 R_at) := by
  refine T0.k_at.F.okX sc_kind_of_at (fun vs H Q E h => ?_) (fun cdv A outer s H vs Q E hr h => ?_)
  · obtain ⟨_, _, _, _, rfl, _⟩ := h
    rfl
  obtain ⟨t, pl, L, ps, rfl, hT, hL, hpl, hn, hps, hns, q, e⟩ := h
  have T := T0.T
  have nd := sc_kind_of_at.nd
  have G_need := ok_need (P := P) (w := w) (base := base) T
  have G_element := ok_element (P := P) (w := w) (base := base) T
  have G_parts := ok_parts (P := P) (w := w) (base := base) T
  have G_pair := ok_pair (P := P) (w := w) (base := base) T
  have G_seq := ok_seq (P := P) (w := w) (base := base) T
  obtain ⟨dx, hob⟩ := hT.ob
  have nm := hT.num_mem
  have n0 := hT.ix_num
  match ps, hn with
  | [p0, p1], _ =>
    have m0 : p0 ∈ L := hps _ (by simp)
    have m1 : p1 ∈ L := hps _ (by simp)
    refine ⟨_, (pss_cons (ps_expr (pe_meth (pv 0) T.cl T.need.m G_need (hr.mono (by omega)) T.need.b .nil (passes_call (takes_of rfl rfl rfl rfl) (fun _ _ _ _ h => h)) (pa_cons (pe_ix ix_list (pv 1) pe_int (fun _ _ => rfl)) (pa_cons (pe_gv rfl T.num) pa_nil))))
  (pss_one (ps_ret (pe_meth (pv 0) T.cl T.element.m G_element (hr.mono (by omega)) T.element.b .nil (passes_call (takes_of rfl rfl rfl rfl) (fun _ _ _ _ h => h)) (pa_cons (pe_ix ix_list (pv 1) pe_int (fun _ _ => rfl)) pa_nil))))), ?_⟩
    refine ⟨_, rfl, t.tb, dx, _, rfl, hob, tf_no _ _ (by decide +kernel) (by decide +kernel), _, rfl, pl, _, _, _, rfl, rfl, SqL.of hpl, atI_nat (j := 1) rfl, t, L, p1, .num, by rw [n0]; rfl, hT, m1, nm, fun c => ?_, fun c => e (by cases p0 <;> first | rfl | exact if_neg c) H (Same.refl H)⟩
    refine ⟨_, rfl, t.tb, dx, _, rfl, hob, tf_no _ _ (by decide +kernel) (by decide +kernel), _, rfl, pl, _, _, _, rfl, rfl, SqL.of hpl, atI_nat (j := 0) rfl, t, L, p0, rfl, hT, m0, fun j ej H' sm => ?_, fun nj => e (by cases p0 <;> first | rfl | exact absurd rfl (nj _)) H (Same.refl H)⟩
    subst ej
    exact q _ (if_pos c) H' L (TFr.of sm) (hT.keep sm) (More.refl L) (by omega) (hT.ok.cl _ m0 _ (by simp [comps]))
theorem ok_k_sum (T0 : RTxt K mg a r) : FnOk P w K mg base (L2.CX P w) 3 r.k_sum.1 r.k_sum.2 ["table", "parts"] (spR a.C a.KindError 1 R_sum) := by
  refine T0.k_sum.F.okX sc_kind_of_sum (fun vs H Q E h => ?_) (fun cdv A outer s H vs Q E hr h => ?_)
  · obtain ⟨_, _, _, _, rfl, _⟩ := h
    rfl
  obtain ⟨t, pl, L, ps, rfl, hT, hL, hpl, hn, hps, hns, q, e⟩ := h
  have T := T0.T
  have nd := sc_kind_of_sum.nd
  have G_need := ok_need (P := P) (w := w) (base := base) T
  have G_element := ok_element (P := P) (w := w) (base := base) T
  have G_parts := ok_parts (P := P) (w := w) (base := base) T
  have G_pair := ok_pair (P := P) (w := w) (base := base) T
  have G_seq := ok_seq (P := P) (w := w) (base := base) T
  obtain ⟨dx, hob⟩ := hT.ob
  have nm := hT.num_mem
  have n0 := hT.ix_num
  match ps, hn with
  | [p0], _ =>
    have m0 : p0 ∈ L := hps _ (by simp)
    refine ⟨_, (pss_cons (ps_expr (pe_meth (pv 0) T.cl T.need.m G_need (hr.mono (by omega)) T.need.b .nil (passes_call (takes_of rfl rfl rfl rfl) (fun _ _ _ _ h => h)) (pa_cons (pe_meth (pv 0) T.cl T.element.m G_element (hr.mono (by omega)) T.element.b .nil (passes_call (takes_of rfl rfl rfl rfl) (fun _ _ _ _ h => h)) (pa_cons (pe_ix ix_list (pv 1) pe_int (fun _ _ => rfl)) pa_nil)) (pa_cons (pe_gv rfl T.num) pa_nil))))
  (pss_one (ps_ret (pe_gv rfl T.num)))), ?_⟩
    refine ⟨_, rfl, t.tb, dx, _, rfl, hob, tf_no _ _ (by decide +kernel) (by decide +kernel), _, rfl, t.tb, dx, _, rfl, hob, tf_no _ _ (by decide +kernel) (by decide +kernel), _, rfl, pl, _, _, _, rfl, rfl, SqL.of hpl, atI_nat (j := 0) rfl, t, L, p0, rfl, hT, m0, fun j ej H' sm => ?_, fun nj => e (by cases p0 <;> first | rfl | exact absurd rfl (nj _)) H (Same.refl H)⟩
    subst ej
    refine ⟨t, L, j, .num, by rw [n0]; rfl, hT.keep sm, hT.ok.cl _ m0 _ (by simp [comps]), nm, fun c => ?_, fun c => e (if_neg c) H' sm⟩
    have z := q .num (if_pos c) H' L (TFr.of sm) (hT.keep sm) (More.refl L) (by omega) nm
    rw [n0] at z
    exact z
theorem ok_k_flat (T0 : RTxt K mg a r) : FnOk P w K mg base (L2.CX P w) 3 r.k_flat.1 r.k_flat.2 ["table", "parts"] (spR a.C a.KindError 1 R_flat) := by
  refine T0.k_flat.F.okX sc_kind_of_flat (fun vs H Q E h => ?_) (fun cdv A outer s H vs Q E hr h => ?_)
  · obtain ⟨_, _, _, _, rfl, _⟩ := h
    rfl
  obtain ⟨t, pl, L, ps, rfl, hT, hL, hpl, hn, hps, hns, q, e⟩ := h
  have T := T0.T
  have nd := sc_kind_of_flat.nd
  have G_need := ok_need (P := P) (w := w) (base := base) T
  have G_element := ok_element (P := P) (w := w) (base := base) T
  have G_parts := ok_parts (P := P) (w := w) (base := base) T
  have G_pair := ok_pair (P := P) (w := w) (base := base) T
  have G_seq := ok_seq (P := P) (w := w) (base := base) T
  obtain ⟨dx, hob⟩ := hT.ob
  have nm := hT.num_mem
  have n0 := hT.ix_num
  match ps, hn with
  | [p0], _ =>
    have m0 : p0 ∈ L := hps _ (by simp)
    refine ⟨_, (pss_cons (ps_set (i := 2) nd rfl (Or.inl rfl) (pe_meth (pv 0) T.cl T.element.m G_element (hr.mono (by omega)) T.element.b .nil (passes_call (takes_of rfl rfl rfl rfl) (fun _ _ _ _ h => h)) (pa_cons (pe_ix ix_list (pv 1) pe_int (fun _ _ => rfl)) pa_nil)))
  (pss_cons (ps_expr (pe_meth (pv 0) T.cl T.element.m G_element (hr.mono (by omega)) T.element.b .nil (passes_call (takes_of rfl rfl rfl rfl) (fun _ _ _ _ h => h)) (pa_cons (pv 2) pa_nil)))
  (pss_one (ps_ret (pv 2))))), ?_⟩
    refine ⟨_, rfl, t.tb, dx, _, rfl, hob, tf_no _ _ (by decide +kernel) (by decide +kernel), _, rfl, pl, _, _, _, rfl, rfl, SqL.of hpl, atI_nat (j := 0) rfl, t, L, p0, rfl, hT, m0, fun j ej H' sm => ?_, fun nj => e (by cases p0 <;> first | rfl | exact absurd rfl (nj _)) H (Same.refl H)⟩
    subst ej
    have jm : j ∈ L := hT.ok.cl _ m0 _ (by simp [comps])
    refine ⟨_, rfl, t.tb, dx, _, rfl, sm _ _ hob, tf_no _ _ (by decide +kernel) (by decide +kernel), _, rfl, t, L, j, rfl, hT.keep sm, jm, fun l el H2 sm2 => ?_, fun nj => e (by cases j <;> first | rfl | exact absurd rfl (nj _)) H' sm⟩
    subst el
    exact ⟨_, rfl, q _ rfl H2 L (TFr.of (sm.trans sm2)) (hT.keep (sm.trans sm2)) (More.refl L) (by omega) jm⟩
theorem ok_k_keep (T0 : RTxt K mg a r) : FnOk P w K mg base (L2.CX P w) 3 r.k_keep.1 r.k_keep.2 ["table", "parts"] (spR a.C a.KindError 2 R_keep) := by
  refine T0.k_keep.F.okX sc_kind_of_keep (fun vs H Q E h => ?_) (fun cdv A outer s H vs Q E hr h => ?_)
  · obtain ⟨_, _, _, _, rfl, _⟩ := h
    rfl
  obtain ⟨t, pl, L, ps, rfl, hT, hL, hpl, hn, hps, hns, q, e⟩ := h
  have T := T0.T
  have nd := sc_kind_of_keep.nd
  have G_need := ok_need (P := P) (w := w) (base := base) T
  have G_element := ok_element (P := P) (w := w) (base := base) T
  have G_parts := ok_parts (P := P) (w := w) (base := base) T
  have G_pair := ok_pair (P := P) (w := w) (base := base) T
  have G_seq := ok_seq (P := P) (w := w) (base := base) T
  obtain ⟨dx, hob⟩ := hT.ob
  have nm := hT.num_mem
  have n0 := hT.ix_num
  match ps, hn with
  | [p0, p1], _ =>
    have m0 : p0 ∈ L := hps _ (by simp)
    have m1 : p1 ∈ L := hps _ (by simp)
    refine ⟨_, (pss_cons (ps_asg (pv 1) (pg_lst rfl (pgs_cons (pg_name (i := 2) nd rfl (Or.inl rfl)) (pgs_cons (pg_name (i := 3) nd rfl (Or.inl rfl)) pgs_nil))))
  (pss_cons (ps_expr (pe_meth (pv 0) T.cl T.element.m G_element (hr.mono (by omega)) T.element.b .nil (passes_call (takes_of rfl rfl rfl rfl) (fun _ _ _ _ h => h)) (pa_cons (pv 2) pa_nil)))
  (pss_cons (ps_expr (pe_meth (pv 0) T.cl T.need.m G_need (hr.mono (by omega)) T.need.b .nil (passes_call (takes_of rfl rfl rfl rfl) (fun _ _ _ _ h => h)) (pa_cons (pe_meth (pv 0) T.cl T.element.m G_element (hr.mono (by omega)) T.element.b .nil (passes_call (takes_of rfl rfl rfl rfl) (fun _ _ _ _ h => h)) (pa_cons (pv 3) pa_nil)) (pa_cons (pe_gv rfl T.num) pa_nil))))
  (pss_one (ps_ret (pv 2)))))), ?_⟩
    refine ⟨_, rfl, pl, _, rfl, SqL.of hpl, rfl, _, _, rfl, _, _, rfl, rfl, ?_⟩
    refine ⟨_, rfl, t.tb, dx, _, rfl, hob, tf_no _ _ (by decide +kernel) (by decide +kernel), _, rfl, t, L, p0, rfl, hT, m0, fun j ej H' sm => ?_, fun nj => e (by cases p0 <;> first | rfl | exact absurd rfl (nj _)) H (Same.refl H)⟩
    subst ej
    have T1 := hT.keep sm
    refine ⟨_, rfl, t.tb, dx, _, rfl, sm _ _ hob, tf_no _ _ (by decide +kernel) (by decide +kernel), _, rfl, t.tb, dx, _, rfl, sm _ _ hob, tf_no _ _ (by decide +kernel) (by decide +kernel), _, rfl, t, L, p1, rfl, T1, m1, fun l el H2 sm2 => ?_, fun nj => e (by cases p1 <;> first | rfl | exact absurd rfl (nj _)) H' sm⟩
    subst el
    refine ⟨t, L, l, .num, by rw [n0]; rfl, T1.keep sm2, hT.ok.cl _ m1 _ (by simp [comps]), nm, fun c => ?_, fun c => e (if_neg c) H2 (sm.trans sm2)⟩
    exact ⟨_, rfl, q _ (if_pos c) H2 L (TFr.of (sm.trans sm2)) (T1.keep sm2) (More.refl L) (by omega) m0⟩
theorem ok_k_append (T0 : RTxt K mg a r) : FnOk P w K mg base (L2.CX P w) 3 r.k_append.1 r.k_append.2 ["table", "parts"] (spR a.C a.KindError 2 R_append) := by
  refine T0.k_append.F.okX sc_kind_of_append (fun vs H Q E h => ?_) (fun cdv A outer s H vs Q E hr h => ?_)
  · obtain ⟨_, _, _, _, rfl, _⟩ := h
    rfl
  obtain ⟨t, pl, L, ps, rfl, hT, hL, hpl, hn, hps, hns, q, e⟩ := h
  have T := T0.T
  have nd := sc_kind_of_append.nd
  have G_need := ok_need (P := P) (w := w) (base := base) T
  have G_element := ok_element (P := P) (w := w) (base := base) T
  have G_parts := ok_parts (P := P) (w := w) (base := base) T
  have G_pair := ok_pair (P := P) (w := w) (base := base) T
  have G_seq := ok_seq (P := P) (w := w) (base := base) T
  obtain ⟨dx, hob⟩ := hT.ob
  have nm := hT.num_mem
  have n0 := hT.ix_num
  match ps, hn with
  | [p0, p1], _ =>
    have m0 : p0 ∈ L := hps _ (by simp)
    have m1 : p1 ∈ L := hps _ (by simp)
    refine ⟨_, (pss_cons (ps_asg (pv 1) (pg_lst rfl (pgs_cons (pg_name (i := 2) nd rfl (Or.inl rfl)) (pgs_cons (pg_name (i := 3) nd rfl (Or.inl rfl)) pgs_nil))))
  (pss_cons (ps_expr (pe_meth (pv 0) T.cl T.element.m G_element (hr.mono (by omega)) T.element.b .nil (passes_call (takes_of rfl rfl rfl rfl) (fun _ _ _ _ h => h)) (pa_cons (pv 2) pa_nil)))
  (pss_cons (ps_expr (pe_meth (pv 0) T.cl T.need.m G_need (hr.mono (by omega)) T.need.b .nil (passes_call (takes_of rfl rfl rfl rfl) (fun _ _ _ _ h => h)) (pa_cons (pv 3) (pa_cons (pv 2) pa_nil))))
  (pss_one (ps_ret (pv 2)))))), ?_⟩
    refine ⟨_, rfl, pl, _, rfl, SqL.of hpl, rfl, _, _, rfl, _, _, rfl, rfl, ?_⟩
    refine ⟨_, rfl, t.tb, dx, _, rfl, hob, tf_no _ _ (by decide +kernel) (by decide +kernel), _, rfl, t, L, p0, rfl, hT, m0, fun j ej H' sm => ?_, fun nj => e (by cases p0 <;> first | rfl | exact absurd rfl (nj _)) H (Same.refl H)⟩
    subst ej
    have T1 := hT.keep sm
    refine ⟨_, rfl, t.tb, dx, _, rfl, sm _ _ hob, tf_no _ _ (by decide +kernel) (by decide +kernel), _, rfl, _, rfl, t, L, p1, .seq j, rfl, T1, m1, m0, fun c => ?_, fun c => e (if_neg c) H' sm⟩
    exact ⟨_, rfl, q _ (if_pos c) H' L (TFr.of sm) T1 (More.refl L) (by omega) m0⟩
end
end K2

namespace K2
open PySem PySem.Spec PyProof.Rows L2
structure BAd where
  CB : Addr
  init : Addr × FuncData
  kind_of_body : Addr × FuncData
  bind : Addr × FuncData
  leave : Addr × FuncData
  kind_of : Addr × FuncData
  kind_of_variable : Addr × FuncData
  kind_of_operation : Addr × FuncData
  kind_of_call : Addr × FuncData
  OPS : Addr
  RULES : Addr
structure BTxt (w : World) (K : PySem.W.Frag) (mg : Str → Option Value) (a : TAd) (r : RAd) (b : BAd) : Prop where
  R : RTxt K mg a r
  cl : Cls K b.CB
  n_table : NoAttr K b.CB "table"
  n_signatures : NoAttr K b.CB "signatures"
  n_visible : NoAttr K b.CB "visible"
  n_done : NoAttr K b.CB "done"
  gB : mg "BodyCheck" = some (.ref b.CB)
  mkk : Mk K b.CB b.init.1
  iF : Fun K "__init__" "BodyCheck.__init__" s_BodyCheck___init__ b.init.1 b.init.2
  ib : Binds K b.init.2 ["self", "table", "signatures", "param", "given"] []
  kind_of_body : MAt K b.CB "kind_of_body" "BodyCheck.kind_of_body" s_BodyCheck_kind_of_body ["self", "body"] b.kind_of_body
  bind : MAt K b.CB "bind" "BodyCheck.bind" s_BodyCheck_bind ["self", "e"] b.bind
  leave : MAt K b.CB "leave" "BodyCheck.leave" s_BodyCheck_leave ["self", "e"] b.leave
  kind_of : MAt K b.CB "kind_of" "BodyCheck.kind_of" s_BodyCheck_kind_of ["self", "e", "parts"] b.kind_of
  kind_of_variable : MAt K b.CB "kind_of_variable" "BodyCheck.kind_of_variable" s_BodyCheck_kind_of_variable ["self", "name"] b.kind_of_variable
  kind_of_operation : MAt K b.CB "kind_of_operation" "BodyCheck.kind_of_operation" s_BodyCheck_kind_of_operation ["self", "sign", "parts"] b.kind_of_operation
  kind_of_call : MAt K b.CB "kind_of_call" "BodyCheck.kind_of_call" s_BodyCheck_kind_of_call ["self", "name", "argument"] b.kind_of_call
  gO : mg "OPERATIONS" = some (.ref b.OPS)
  oD : ∃ es n, KDict K w b.OPS es n
  oY : ∀ s, s ∈ sgns → ∃ v, PySem.W.nsIn K b.OPS s = some (some v)
  oN : PySem.W.nsIn K b.OPS "**" = some none
  gR : mg "RULES" = some (.ref b.RULES)
  r_let : KDct K w b.RULES "let" (.ref r.k_let.1)
  r_if : KDct K w b.RULES "if" (.ref r.k_if.1)
  r_pair : KDct K w b.RULES "pair" (.ref r.k_pair.1)
  r_first : KDct K w b.RULES "first" (.ref r.k_first.1)
  r_second : KDct K w b.RULES "second" (.ref r.k_second.1)
  r_each : KDct K w b.RULES "each" (.ref r.k_each.1)
  r_iota : KDct K w b.RULES "iota" (.ref r.k_iota.1)
  r_len : KDct K w b.RULES "len" (.ref r.k_len.1)
  r_at : KDct K w b.RULES "at" (.ref r.k_at.1)
  r_sum : KDct K w b.RULES "sum" (.ref r.k_sum.1)
  r_flat : KDct K w b.RULES "flat" (.ref r.k_flat.1)
  r_keep : KDct K w b.RULES "keep" (.ref r.k_keep.1)
  r_append : KDct K w b.RULES "append" (.ref r.k_append.1)

/-! ### the state of a check -/
def bf (tb sg vd dn : Addr) : List (Str × V) := putF "done" (.ref dn) (putF "visible" (.ref vd) (putF "signatures" (.ref sg) (putF "table" (.ref tb) [])))
theorem bf_d (tb sg vd dn : Addr) : (bf tb sg vd dn).lookup ("done" : Str) = some (.ref dn) := by
  unfold bf
  rw [lookup_putF, if_pos rfl]
theorem bf_v (tb sg vd dn : Addr) : (bf tb sg vd dn).lookup ("visible" : Str) = some (.ref vd) := by
  unfold bf
  rw [lookup_putF, if_neg (by decide +kernel), lookup_putF, if_pos rfl]
theorem bf_s (tb sg vd dn : Addr) : (bf tb sg vd dn).lookup ("signatures" : Str) = some (.ref sg) := by
  unfold bf
  rw [lookup_putF, if_neg (by decide +kernel), lookup_putF, if_neg (by decide +kernel), lookup_putF, if_pos rfl]
theorem bf_t (tb sg vd dn : Addr) : (bf tb sg vd dn).lookup ("table" : Str) = some (.ref tb) := by
  unfold bf
  rw [lookup_putF, if_neg (by decide +kernel), lookup_putF, if_neg (by decide +kernel), lookup_putF, if_neg (by decide +kernel), lookup_putF, if_pos rfl]
theorem bf_no (tb sg vd dn : Addr) {m : Str} (h : m ∉ (["done", "visible", "signatures", "table"] : List Str)) : (bf tb sg vd dn).lookup m = none := by
  simp only [List.mem_cons, List.not_mem_nil, or_false, not_or] at h
  unfold bf
  rw [lookup_putF, if_neg h.1, lookup_putF, if_neg h.2.1, lookup_putF, if_neg h.2.2.1, lookup_putF, if_neg h.2.2.2]
  all_goals rfl
structure Bc where
  bc : Addr
  t : Tb
  sg : Addr
  vd : Addr
  dn : Addr
structure SgOk (H : Hp) (L : List Kd) (S : Sg) (kvs : List (L2.Key × V)) : Prop where
  no : ∀ f, valV kvs (.inr f) = none → find S f = none
  yes : ∀ f v, valV kvs (.inr f) = some v → ∃ b g r, v = .ref b ∧ H b = some (.tup [.int (ix L g), .int (ix L r)]) ∧ find S f = some (g, r) ∧ g ∈ L ∧ r ∈ L
structure VsOk (H : Hp) (β : Bc) (Pr : Addr → Prop) (L : List Kd) (vis : Str → List Kd) (kvs : List (L2.Key × V)) : Prop where
  no : ∀ x, valV kvs (.inr x) = none → vis x = []
  yes : ∀ x v, valV kvs (.inr x) = some v → ∃ l, v = .ref l ∧ H l = some (.lst (ixs L (vis x))) ∧ l ≠ β.dn ∧ l ≠ β.t.sl ∧ ¬ Pr l
  inj : ∀ x y v, valV kvs (.inr x) = some v → valV kvs (.inr y) = some v → x = y
structure BSt (CT CB : Addr) (Hb : Hp) (Pr : Addr → Prop) (H : Hp) (β : Bc) (S : Sg) (L stk : List Kd) (vis : Str → List Kd) (m : Nat) : Prop where
  ob : ∃ dx, H β.bc = some (.ins CB dx (bf β.t.tb β.sg β.vd β.dn))
  tb : TbAt CT H β.t L
  sg : ∃ kvs, H β.sg = some (.dK kvs) ∧ SgOk H L S kvs
  dn : H β.dn = some (.lst (ixs L stk))
  sk : ∀ k ∈ stk, k ∈ L
  vd : ∃ kvs, H β.vd = some (.dK kvs) ∧ kvs.length ≤ m ∧ VsOk H β Pr L vis kvs
  vs : ∀ x, ∀ k ∈ vis x, k ∈ L
  ds : β.dn ≠ β.t.sl
  sv : β.sg ≠ β.vd
  pr : ¬ Pr β.t.sl ∧ ¬ Pr β.t.nm ∧ ¬ Pr β.vd ∧ ¬ Pr β.dn
  pb : ∀ b, Pr b → ∃ o, Hb b = some o
  keep : ∀ b o, Pr b → Hb b = some o → H b = some o
  ln : L.length ≤ m ∧ stk.length ≤ m ∧ ∀ x, (vis x).length ≤ m
/-- what changes the table alone -/
theorem BSt.tfr {CT CB : Addr} {Hb H H' : Hp} {Pr : Addr → Prop} {β : Bc} {S : Sg} {L L' stk : List Kd} {vis : Str → List Kd} {m : Nat} (h : BSt CT CB Hb Pr H β S L stk vis m) (f : TFr β.t H H') (t : TbAt CT H' β.t L') (ml : More L L') (ll : L'.length ≤ L.length + 1) :
    BSt CT CB Hb Pr H' β S L' stk vis (m + 1) := by
  obtain ⟨⟨dx, ob⟩, tb, ⟨skv, sg, sgo⟩, dn, sk, ⟨vkv, vd, vdl, vso⟩, vs, ds, sv, pr, pb, keep, ln⟩ := h
  obtain ⟨shs, hs, _⟩ := id tb.sh
  obtain ⟨kvs, hn, _⟩ := id tb.nu
  have kt := tb.kt f
  refine ⟨⟨dx, f _ _ (ne_of ob hs (fun z => nomatch z)) (ne_of ob hn (fun z => nomatch z)) ob⟩, t, ⟨skv, f _ _ (ne_of sg hs (fun z => nomatch z)) (ne_of sg hn (fun z => nomatch z)) sg, ⟨sgo.no, fun x v e => ?_⟩⟩, ?_, fun k hk => ml.mem (sk k hk), ⟨vkv, f _ _ (ne_of vd hs (fun z => nomatch z)) (ne_of vd hn (fun z => nomatch z)) vd, by omega, ⟨vso.no, fun x v e => ?_, vso.inj⟩⟩, fun x k hk => ml.mem (vs x k hk), ds, sv, pr, pb, fun b o p e => ?_, by omega, by omega, fun x => Nat.le_succ_of_le (ln.2.2 x)⟩
  · obtain ⟨b, g, r, e1, e2, e3, e4, e5⟩ := sgo.yes x v e
    exact ⟨b, g, r, e1, by rw [ml.ix e4, ml.ix e5]; exact kt _ _ e2, e3, ml.mem e4, ml.mem e5⟩
  · rw [ixs_more ml sk]
    exact f _ _ ds (ne_of dn hn (fun z => nomatch z)) dn
  · obtain ⟨l, e1, e2, e3, e4, e5⟩ := vso.yes x v e
    exact ⟨l, e1, by rw [ixs_more ml (vs x)]; exact f _ _ e4 (ne_of e2 hn (fun z => nomatch z)) e2, e3, e4, e5⟩
  · refine f _ _ (fun z => pr.1 (by rw [← z]; exact p)) (fun z => pr.2.1 (by rw [← z]; exact p)) (keep b o p e)
section
variable {P : Program} {w : World} {K : PySem.W.Frag} {mg : Str → Option Value} {base : Heap} {a : TAd} {r : RAd} {b : BAd}
theorem len_add (x y : Str) : (x ++ y).length = x.length + y.length := by
  show (x.cps ++ y.cps).size = x.cps.size + y.cps.size
  exact Array.size_append
theorem len_app {x y : Str} (hx : x.length ≤ 1000) (hy : y.length ≤ 1000) : (x ++ y).length ≤ sizeLine := by
  rw [len_add]; exact Nat.le_trans (Nat.add_le_add hx hy) (by decide)
theorem len_app3 {x y z : Str} (hx : x.length ≤ 1000) (hy : y.length ≤ 1000) (hz : z.length ≤ 1000) : (x ++ y ++ z).length ≤ sizeLine := by
  rw [len_add, len_add]; exact Nat.le_trans (Nat.add_le_add (Nat.add_le_add hx hy) hz) (by decide)
theorem atI_lst {xs : List V} {y : V} (h : xs.getLast? = some y) : atI xs (-1) = some y := by
  obtain ⟨ys, rfl⟩ := List.getLast?_eq_some_iff.mp h
  exact atI_last ys y
def spVar (CT CB D : Addr) : Sp := fun vs H Q E => ∃ (Hb : Hp) (Pr : Addr → Prop) (β : Bc) (S : Sg) (L stk : List Kd) (vis : Str → List Kd) (m : Nat) (x : Str), vs = [.ref β.bc, .str x] ∧ BSt CT CB Hb Pr H β S L stk vis m ∧ m < 1000000 ∧
  (∀ k, (vis x).getLast? = some k → ∀ H', Same H H' → Q (.int (ix L k)) H') ∧ ((vis x).getLast? = none → x.length ≤ 1000 ∧ ∀ H', Same H H' → E (.ref D) none H')
theorem ok_variable (T : BTxt w K mg a r b) : FnOk P w K mg base (L2.CX P w) 1 b.kind_of_variable.1 b.kind_of_variable.2 ["self", "name"] (spVar a.C b.CB a.KindError) := by
  refine T.kind_of_variable.F.okX sc_BodyCheck_kind_of_variable (fun vs H Q E h => ?_) (fun cdv A outer s H vs Q E hr h => ?_)
  · obtain ⟨_, _, _, _, _, _, _, _, _, rfl, _⟩ := h
    rfl
  obtain ⟨Hb, Pr, β, S, L, stk, vis, m, x, rfl, B, hm, q, e⟩ := h
  have nd := sc_BodyCheck_kind_of_variable.nd
  have hu := hu_of hr
  obtain ⟨dx, hob⟩ := B.ob
  obtain ⟨kvs, hvd, kl, vo⟩ := B.vd
  refine ⟨_, (pss_cons (ps_set (i := 2) nd rfl (Or.inl rfl) (pe_dget2 hu (pe_fld (pv 0) rfl) (pv 1) (pe_lst pa_nil) ⟨rfl, rfl, rfl, rfl⟩))
  (pss_cons (ps_if (pt_not (pt_truth (pv 2) (by intro _; rfl))) (pss_one (ps_raise rfl (takes_of rfl rfl rfl rfl) (pmk_ownA PySem.F.excBase_ValueError T.R.T.xT T.R.T.gK T.R.T.kT (raises_own T.R.T.bT T.R.T.tT) rfl (pa_cons (pe_joined (PJ.cons pe_str (PJ.cons (pe_fmt (pv 1)) (PJ.cons pe_str PJ.nil)))) pa_nil)))) pss_nil)
  (pss_one (ps_ret (pe_ix ix_list (pv 2) (pe_un un_neg pe_int) (fun _ _ => rfl)))))), ?_⟩
  refine ⟨_, rfl, β.bc, b.CB, dx, _, _, rfl, hob, T.cl, T.n_visible, bf_v _ _ _ _, β.vd, rfl, .inl ⟨kvs, .inl hvd⟩, _, rfl, (by show 0 ≤ sizeLine; decide), fun p hp => ?_⟩
  have s1 := same_new hp (.lst [])
  refine ⟨_, DGet.k (k := .inr x) (s1 _ _ hvd), ?_⟩
  obtain ⟨l, el, hl⟩ : ∃ l, (valV kvs (.inr x)).getD (.ref p) = .ref l ∧ (upd H p (.lst [])) l = some (.lst (ixs L (vis x))) := by
    cases hv : valV kvs (.inr x) with
    | none => exact ⟨p, rfl, by rw [vo.no x hv]; exact upd_same⟩
    | some v =>
      obtain ⟨l, e1, e2, _⟩ := vo.yes x v hv
      exact ⟨l, e1, s1 _ _ e2⟩
  rw [el]
  refine ⟨_, rfl, _, .inl ⟨_, SqL.of hl, rfl⟩, ?_⟩
  cases hg : (vis x).getLast? with
  | none =>
    have hnil : vis x = [] := List.getLast?_eq_none_iff.mp hg
    refine ifT (by rw [hnil]; rfl) ?_
    obtain ⟨xl, e2⟩ := e hg
    have xl2 : x.length ≤ sizeLine := Nat.le_trans xl (by decide)
    exact ⟨_, rfl, (by decide +kernel), _, rfl, .inl ⟨_, rfl, xl2, _, rfl, len_app (by decide +kernel) xl, _, rfl, len_app3 (by decide +kernel) xl (by decide +kernel), (by show 1 ≤ sizeLine; decide), e2 _ s1⟩⟩
  | some k =>
    have hne : vis x ≠ [] := fun z => by rw [z] at hg; cases hg
    refine ifF (by
      cases hx : vis x with
      | nil => exact absurd hx hne
      | cons _ _ => rfl) ?_
    refine ⟨_, rfl, _, rfl, l, _, _, _, rfl, rfl, SqL.of hl, ?_, q k hg _ s1⟩
    have e3 : (ixs L (vis x)).getLast? = some (.int (ix L k)) := by unfold ixs; rw [List.getLast?_map, hg]; rfl
    exact atI_lst e3
end
end K2

namespace K2
open PySem PySem.Spec PyProof.Rows L2
section
variable {P : Program} {w : World} {K : PySem.W.Frag} {mg : Str → Option Value} {base : Heap} {a : TAd} {r : RAd} {b : BAd}
def spOper (CT CB D : Addr) : Sp := fun vs H Q E => ∃ (Hb : Hp) (Pr : Addr → Prop) (β : Bc) (S : Sg) (L stk : List Kd) (vis : Str → List Kd) (m : Nat) (x : Str) (pl : Addr) (ps : List Kd), vs = [.ref β.bc, .str x, .ref pl] ∧ BSt CT CB Hb Pr H β S L stk vis m ∧ m < 1000000 ∧
  H pl = some (.lst (ixs L ps)) ∧ (∀ k ∈ ps, k ∈ L) ∧ (x ∈ sgns ∨ x = "**") ∧
  (x ∈ sgns → (∀ k ∈ ps, k = .num) → Q (.int (ix L .num)) H) ∧ (¬ (x ∈ sgns ∧ ∀ k ∈ ps, k = .num) → E (.ref D) none H)
theorem ok_operation (T : BTxt w K mg a r b) : FnOk P w K mg base (L2.CX P w) 2 b.kind_of_operation.1 b.kind_of_operation.2 ["self", "sign", "parts"] (spOper a.C b.CB a.KindError) := by
  refine T.kind_of_operation.F.okX sc_BodyCheck_kind_of_operation (fun vs H Q E h => ?_) (fun cdv A outer s H vs Q E hr h => ?_)
  · obtain ⟨_, _, _, _, _, _, _, _, _, _, _, rfl, _⟩ := h
    rfl
  obtain ⟨Hb, Pr, β, S, L, stk, vis, m, x, pl, ps, rfl, B, hm, hpl, hps, hx, q, e⟩ := h
  have nd := sc_BodyCheck_kind_of_operation.nd
  have G_need := ok_need (P := P) (w := w) (base := base) T.R.T
  obtain ⟨es, n, D⟩ := T.oD
  obtain ⟨dx, hob⟩ := B.ob
  obtain ⟨dt, htb⟩ := B.tb.ob
  have nm := B.tb.num_mem
  have n0 := B.tb.ix_num
  refine ⟨_, (pss_cons (ps_if (pt_cmpR (op_notIn_kd D) (pv 1) (pe_glob (v := .ref b.OPS) rfl T.gO rfl) (by rfl)) (pss_one (ps_raise rfl (takes_of rfl rfl rfl rfl) (pmk_ownA PySem.F.excBase_ValueError T.R.T.xT T.R.T.gK T.R.T.kT (raises_own T.R.T.bT T.R.T.tT) rfl (pa_cons (pe_joined (PJ.cons pe_str (PJ.cons (pe_fmt (pv 1)) PJ.nil))) pa_nil)))) pss_nil)
  (pss_cons (ps_for (L2.passes_of rfl) rfl (pi_list (pv 2)) (pg_name (i := 3) nd rfl (Or.inl rfl)) (pss_one (ps_expr (pe_meth (pe_fld (pv 0) rfl) T.R.T.cl T.R.T.need.m G_need (hr.mono (by omega)) T.R.T.need.b .nil (passes_call (takes_of rfl rfl rfl rfl) (fun _ _ _ _ h => h)) (pa_cons (pv 3) (pa_cons (pe_gv rfl T.R.T.num) pa_nil))))))
  (pss_one (ps_ret (pe_gv rfl T.R.T.num))))), ?_⟩
  by_cases hs : x ∈ sgns
  · obtain ⟨v, hv⟩ := T.oY x hs
    refine ⟨_, rfl, x, _, rfl, rfl, hv, _, rfl, ?_⟩
    refine ifF rfl ?_
    refine ⟨_, rfl, pl, rfl, ⟨_, SqL.of hpl⟩, for_list (K := K) (a := pl) (xs := ixs L ps) (fun i σ H' => H' = H ∧ (∀ k ∈ ps.take i, k = .num) ∧ ∃ x3, σ = [some (.ref β.bc), some (.str x), some (.ref pl), x3]) ⟨rfl, fun _ h => (by simp at h), none, rfl⟩ (fun i σ H' _ h => by rw [h.1]; exact SqL.of hpl) ?_ ?_⟩
    · rintro i y σ H' hi ⟨rfl, hn, x3, rfl⟩
      have hi' : (ps.map fun k => V.int (ix L k))[i]? = some y := hi
      rw [List.getElem?_map] at hi'
      obtain ⟨k, hk, rfl⟩ := Option.map_eq_some_iff.mp hi'
      have km := List.mem_of_getElem? hk
      refine ⟨_, rfl, β.bc, b.CB, dx, _, _, rfl, hob, T.cl, T.n_table, bf_t _ _ _ _, β.t.tb, dt, _, rfl, htb, tf_no _ _ (by decide +kernel) (by decide +kernel), _, rfl, β.t, L, k, .num, by rw [n0]; rfl, B.tb, hps k km, nm, fun c => ⟨rfl, fun j hj => ?_, _, rfl⟩, fun c => e fun z => c (z.2 k km)⟩
      rw [List.take_succ, hk] at hj
      rcases List.mem_append.mp hj with hj | hj
      · exact hn j hj
      · have : j = k := by simpa using hj
        rw [this]; exact c
    · rintro σ H' ⟨rfl, hn, x3, rfl⟩
      have hl : (ixs L ps).length = ps.length := by unfold ixs; rw [List.length_map]
      rw [hl, List.take_length] at hn
      have z := q hs hn
      rw [n0] at z
      exact z
  · have hx2 : x = "**" := hx.resolve_left hs
    subst hx2
    refine ⟨_, rfl, "**", _, rfl, rfl, T.oN, _, rfl, ?_⟩
    refine ifT rfl ?_
    exact ⟨_, rfl, (by decide +kernel), _, rfl, .inl ⟨_, rfl, (by decide +kernel), _, rfl, (by decide +kernel), (by show 1 ≤ sizeLine; decide), e fun z => hs z.1⟩⟩
def spCallK (CT CB D : Addr) : Sp := fun vs H Q E => ∃ (Hb : Hp) (Pr : Addr → Prop) (β : Bc) (S : Sg) (L stk : List Kd) (vis : Str → List Kd) (m : Nat) (f : Str) (k : Kd), vs = [.ref β.bc, .str f, .int (ix L k)] ∧ BSt CT CB Hb Pr H β S L stk vis m ∧ m < 1000000 ∧ k ∈ L ∧
  (∀ g r, find S f = some (g, r) → k = g → r ∈ L → Q (.int (ix L r)) H) ∧ ((∀ g r, find S f = some (g, r) → ¬ k = g) → (find S f = none → f.length ≤ 1000) ∧ E (.ref D) none H)
theorem ok_kcall (T : BTxt w K mg a r b) : FnOk P w K mg base (L2.CX P w) 2 b.kind_of_call.1 b.kind_of_call.2 ["self", "name", "argument"] (spCallK a.C b.CB a.KindError) := by
  refine T.kind_of_call.F.okX sc_BodyCheck_kind_of_call (fun vs H Q E h => ?_) (fun cdv A outer s H vs Q E hr h => ?_)
  · obtain ⟨_, _, _, _, _, _, _, _, _, _, rfl, _⟩ := h
    rfl
  obtain ⟨Hb, Pr, β, S, L, stk, vis, m, f, k, rfl, B, hm, hk, q, e⟩ := h
  have nd := sc_BodyCheck_kind_of_call.nd
  have hu := hu_of hr
  have G_need := ok_need (P := P) (w := w) (base := base) T.R.T
  obtain ⟨dx, hob⟩ := B.ob
  obtain ⟨dt, htb⟩ := B.tb.ob
  obtain ⟨kvs, hsg, so⟩ := B.sg
  refine ⟨_, (pss_cons (ps_if (pt_cmp (pc_dnotin hu (pv 1) (pe_fld (pv 0) rfl))) (pss_one (ps_raise rfl (takes_of rfl rfl rfl rfl) (pmk_ownA PySem.F.excBase_ValueError T.R.T.xT T.R.T.gK T.R.T.kT (raises_own T.R.T.bT T.R.T.tT) rfl (pa_cons (pe_joined (PJ.cons pe_str (PJ.cons (pe_fmt (pv 1)) PJ.nil))) pa_nil)))) pss_nil)
  (pss_cons (ps_asg (pe_dget hu (pe_fld (pv 0) rfl) (pv 1) (fun _ _ => rfl)) (pg_tup rfl (pgs_cons (pg_name (i := 3) nd rfl (Or.inl rfl)) (pgs_cons (pg_name (i := 4) nd rfl (Or.inl rfl)) pgs_nil))))
  (pss_cons (ps_expr (pe_meth (pe_fld (pv 0) rfl) T.R.T.cl T.R.T.need.m G_need (hr.mono (by omega)) T.R.T.need.b .nil (passes_call (takes_of rfl rfl rfl rfl) (fun _ _ _ _ h => h)) (pa_cons (pv 2) (pa_cons (pv 3) pa_nil))))
  (pss_one (ps_ret (pv 4)))))), ?_⟩
  refine ⟨_, rfl, _, rfl, β.bc, b.CB, dx, _, _, rfl, hob, T.cl, T.n_signatures, bf_s _ _ _ _, β.sg, _, rfl, DGet.k (k := .inr f) hsg, _, rfl, ?_⟩
  cases hv : valV kvs (.inr f) with
  | none =>
    have hf := so.no f hv
    refine ifT rfl ?_
    obtain ⟨fl, ee⟩ := e (fun g r z => by rw [hf] at z; cases z)
    have fl := fl hf
    have fl2 : f.length ≤ sizeLine := Nat.le_trans fl (by decide)
    exact ⟨_, rfl, (by decide +kernel), _, rfl, .inl ⟨_, rfl, fl2, _, rfl, len_app (by decide +kernel) fl, (by show 1 ≤ sizeLine; decide), ee⟩⟩
  | some v =>
    obtain ⟨tb, g, r0, rfl, htp, hf, hg, hr0⟩ := so.yes f v hv
    refine ifF rfl ?_
    refine ⟨_, rfl, β.bc, b.CB, dx, _, _, rfl, hob, T.cl, T.n_signatures, bf_s _ _ _ _, _, rfl, β.sg, _, rfl, by rw [← hv]; exact DGet.k (k := .inr f) hsg, ?_⟩
    refine ⟨tb, _, rfl, .inl (.inl htp), rfl, _, _, rfl, _, _, rfl, rfl, ?_⟩
    refine ⟨_, rfl, β.bc, b.CB, dx, _, _, rfl, hob, T.cl, T.n_table, bf_t _ _ _ _, β.t.tb, dt, _, rfl, htb, tf_no _ _ (by decide +kernel) (by decide +kernel), _, rfl, _, rfl, β.t, L, k, g, rfl, B.tb, hk, hg, fun c => ⟨_, rfl, q g r0 hf c hr0⟩, fun c => (e fun g2 r2 z => ?_).2⟩
    rw [hf] at z
    cases z
    exact c
end
end K2

namespace K2
open PySem PySem.Spec PyProof.Rows L2
def Rw (w : Str) (ps : List Kd) : Option Kd :=
  if w = "first" then R_first ps else if w = "second" then R_second ps else if w = "iota" then R_iota ps else if w = "len" then R_len ps else if w = "sum" then R_sum ps else if w = "flat" then R_flat ps
  else if w = "pair" then R_pair ps else if w = "at" then R_at ps else if w = "keep" then R_keep ps else if w = "append" then R_append ps else none
def kof (S : Sg) (vis : Str → List Kd) : Ex → List Kd → Option Kd
  | .num _, _ => some .num
  | .var x, _ => (vis x).getLast?
  | .op s _ _, ps => if s ∈ sgns ∧ ∀ p ∈ ps, p = .num then some .num else none
  | .call f _, ps => match ps with
    | [p] => match find S f with
      | some (g, r) => if p = g then some r else none
      | none => none
    | _ => none
  | .bnd false _ _ _, ps => R_let ps
  | .bnd true _ _ _, ps => R_each ps
  | .f1 w _, ps => Rw w ps
  | .f2 w _ _, ps => Rw w ps
  | .ite _ _ _, ps => R_if ps
/-- its own name is no long one -/
def Ex.short : Ex → Prop
  | .var x => x.length ≤ 1000
  | .call f _ => f.length ≤ 1000
  | _ => True
def Ex.opOk : Ex → Prop
  | .op s _ _ => s ∈ sgns ∨ s = "**"
  | _ => True
section
variable {P : Program} {w : World} {K : PySem.W.Frag} {mg : Str → Option Value} {base : Heap} {a : TAd} {r : RAd} {b : BAd}
structure KofIn (CT CB D : Addr) (v : V) (H : Hp) (Q : VK) (E : XK) (Hb : Hp) (Pr : Addr → Prop) (β : Bc) (S : Sg) (L stk : List Kd) (vis : Str → List Kd) (m : Nat) (e : Ex) (pl : Addr) (ps : List Kd) : Prop where
  B : BSt CT CB Hb Pr H β S L stk vis m
  hm : m < 999999
  he : ExAt H e v
  wf : e.wf
  op : e.opOk
  hpl : H pl = some (.lst (ixs L ps))
  pn : ps.length = e.parts.length
  pm : ∀ k ∈ ps, k ∈ L
  ns : pl ≠ β.t.sl
  q : ∀ k, kof S vis e ps = some k → ∀ (H' : Hp) (L' : List Kd), TFr β.t H H' → TbAt CT H' β.t L' → More L L' → L'.length ≤ L.length + 1 → k ∈ L' → Q (.int (ix L' k)) H'
  x : kof S vis e ps = none → e.short ∧ ∀ H', Same H H' → E (.ref D) none H'
def spKof (CT CB D : Addr) : Sp := fun vs H Q E => ∃ (v : V) (Hb : Hp) (Pr : Addr → Prop) (β : Bc) (S : Sg) (L stk : List Kd) (vis : Str → List Kd) (m : Nat) (e : Ex) (pl : Addr) (ps : List Kd), vs = [.ref β.bc, v, .ref pl] ∧ KofIn CT CB D v H Q E Hb Pr β S L stk vis m e pl ps
theorem head_word {H : Hp} {e : Ex} {v : V} (h : ExAt H e v) : ∃ c xs, v = .ref c ∧ H c = some (.tup (.str (match e with | .num _ => "num" | .var _ => "var" | .bnd h _ _ _ => bw h | .op _ _ _ => "op" | .call _ _ => "call" | .f1 w _ => w | .f2 w _ _ => w | .ite _ _ _ => "if") :: xs)) := by
  cases e with
  | num _ => obtain ⟨a, e, h⟩ := h; exact ⟨a, _, e, h⟩
  | var _ => obtain ⟨a, e, h⟩ := h; exact ⟨a, _, e, h⟩
  | bnd _ _ _ _ => obtain ⟨a, u, w, e, h, _⟩ := h; exact ⟨a, _, e, h⟩
  | op _ _ _ => obtain ⟨a, u, w, e, h, _⟩ := h; exact ⟨a, _, e, h⟩
  | call _ _ => obtain ⟨a, u, e, h, _⟩ := h; exact ⟨a, _, e, h⟩
  | ite _ _ _ => obtain ⟨a, c, u, w, e, h, _⟩ := h; exact ⟨a, _, e, h⟩
  | f1 w _ => obtain ⟨a, u, e, h, _⟩ := h; exact ⟨a, _, e, h⟩
  | f2 w _ _ => obtain ⟨a, u, y, e, h, _⟩ := h; exact ⟨a, _, e, h⟩
theorem kof_of (T : BTxt w K mg a r b) {wd : Str} {n : Nat} {R : List Kd → Option Kd} {f : Addr × FuncData} {x0 : Str} {st : Stmt} (F : DefAt K mg x0 st ["table", "parts"] f) (G : FnOk P w K mg base (L2.CX P w) 3 f.1 f.2 ["table", "parts"] (spR a.C a.KindError n R)) (ho : KDct K w b.RULES wd (.ref f.1))
    {v : V} {H : Hp} {Q : VK} {E : XK} {Hb : Hp} {Pr : Addr → Prop} {β : Bc} {S : Sg} {L stk : List Kd} {vis : Str → List Kd} {m : Nat} {e : Ex} {pl : Addr} {ps : List Kd} (I : KofIn a.C b.CB a.KindError v H Q E Hb Pr β S L stk vis m e pl ps)
    {cdv : Value} {A : Around} {outer : List Env} {s : Shared} (hr : Room 3 (A.deeper (envOfC "BodyCheck.kind_of" (defScope s_BodyCheck_kind_of) s.heap.objs.size b.kind_of.1 cdv)))
    (hd : (∃ c xs, v = .ref c ∧ H c = some (.tup (.str wd :: xs)) ∧ wd ∉ (["num"] : List Str) ∧ wd ∉ (["var"] : List Str) ∧ wd ∉ (["op"] : List Str) ∧ wd ∉ (["call"] : List Str) ∧ e.parts.length = n ∧ kof S vis e ps = R ps) ∨ (∃ i, e = .num i) ∨ (∃ x, e = .var x) ∨ (∃ x p q, e = .op x p q) ∨ (∃ x p, e = .call x p)) :
    ∃ t, PSs (cxOf (L2.CX P w) P w K mg base ["self", "e", "parts", "form", "rule"] "BodyCheck.kind_of" (defScope s_BodyCheck_kind_of) b.kind_of.1 cdv A outer s H E) (defBody s_BodyCheck_kind_of) t ∧ t { nx := fun _ H' => Q .non H', rt := Q } (start ["self", "e", "parts", "form", "rule"] [.ref β.bc, v, .ref pl]) H := by
  have nd := sc_BodyCheck_kind_of.nd
  have G_kind_of_variable := ok_variable (P := P) (w := w) (base := base) T
  have G_kind_of_operation := ok_operation (P := P) (w := w) (base := base) T
  have G_kind_of_call := ok_kcall (P := P) (w := w) (base := base) T
  obtain ⟨B, hm, he, wf, op, hpl, pn, pm, ns, q, x⟩ := I
  obtain ⟨dx, hob⟩ := B.ob
  refine ⟨_, (pss_one (MX.ps_match (pe_ix ix_tup (pv 1) pe_int (fun _ _ => rfl)) (MX.pmc_tx (cs := ["num"]) rfl (pss_one (ps_ret (pe_gv rfl T.R.T.num))) (MX.pmc_tx (cs := ["var"]) rfl (pss_one (ps_ret (pe_meth (pv 0) T.cl T.kind_of_variable.m G_kind_of_variable (hr.mono (by omega)) T.kind_of_variable.b .nil (passes_call (takes_of rfl rfl rfl rfl) (fun _ _ _ _ h => h)) (pa_cons (pe_ix ix_tup (pv 1) pe_int (fun _ _ => rfl)) pa_nil)))) (MX.pmc_tx (cs := ["op"]) rfl (pss_one (ps_ret (pe_meth (pv 0) T.cl T.kind_of_operation.m G_kind_of_operation (hr.mono (by omega)) T.kind_of_operation.b .nil (passes_call (takes_of rfl rfl rfl rfl) (fun _ _ _ _ h => h)) (pa_cons (pe_ix ix_tup (pv 1) pe_int (fun _ _ => rfl)) (pa_cons (pv 2) pa_nil))))) (MX.pmc_tx (cs := ["call"]) rfl (pss_one (ps_ret (pe_meth (pv 0) T.cl T.kind_of_call.m G_kind_of_call (hr.mono (by omega)) T.kind_of_call.b .nil (passes_call (takes_of rfl rfl rfl rfl) (fun _ _ _ _ h => h)) (pa_cons (pe_ix ix_tup (pv 1) pe_int (fun _ _ => rfl)) (pa_cons (pe_ix ix_list (pv 2) pe_int (fun _ _ => rfl)) pa_nil))))) (MX.pmc_cap (i := 3) nd rfl (Or.inl rfl) (pss_cons (ps_set (i := 4) nd rfl (Or.inl rfl) (pe_ix ix_kdict (pe_glob (v := .ref b.RULES) rfl T.gR rfl) (pv 3) (fun _ _ => rfl))) (pss_one (ps_ret (pe_callL (i := 4) G (hr.mono (by omega)) rfl (.inl rfl) F.F.kp F.b .nil (passes_call (takes_of rfl rfl rfl rfl) (fun _ _ _ _ h => h)) (pa_cons (pe_fld (pv 0) rfl) (pa_cons (pv 2) pa_nil))))))))))))), ?_⟩
  have keepQ : ∀ k, kof S vis e ps = some k → k ∈ L → ∀ H', Same H H' → Q (.int (ix L k)) H' := fun k hk km H' sm => q k hk H' L (TFr.of sm) (B.tb.keep sm) (More.refl L) (by omega) km
  rcases hd with ⟨c, xs, rfl, hc, w1, w2, w3, w4, hn, hR⟩ | ⟨i, rfl⟩ | ⟨y, rfl⟩ | ⟨y, p1, p2, rfl⟩ | ⟨y, p1, rfl⟩
  · refine ⟨_, rfl, c, _, _, _, rfl, rfl, .inl (.inl hc), atI_nat (j := 0) rfl, _, rfl, ifN w1 ⟨_, rfl, ifN w2 ⟨_, rfl, ifN w3 ⟨_, rfl, ifN w4 ?_⟩⟩⟩⟩
    refine ⟨_, rfl, b.RULES, wd, _, rfl, rfl, ho, ?_⟩
    refine ⟨rfl, _, rfl, β.bc, b.CB, dx, _, _, rfl, hob, T.cl, T.n_table, bf_t _ _ _ _, _, rfl, β.t, pl, L, ps, rfl, B.tb, by have := B.ln.1; omega, hpl, by rw [pn, hn], pm, ns, fun k hk H' L' f T' ml ll km => q k (hR.trans hk) H' L' f T' ml ll km, fun hk H' sm => (x (hR.trans hk)).2 H' sm⟩
  · obtain ⟨c, rfl, hc⟩ := he
    refine ⟨_, rfl, c, _, _, _, rfl, rfl, .inl (.inl hc), atI_nat (j := 0) rfl, _, rfl, ifY (by decide +kernel) ?_⟩
    have z := keepQ .num rfl B.tb.num_mem H (Same.refl H)
    rw [B.tb.ix_num] at z
    exact z
  · obtain ⟨c, rfl, hc⟩ := he
    refine ⟨_, rfl, c, _, _, _, rfl, rfl, .inl (.inl hc), atI_nat (j := 0) rfl, _, rfl, ifN (by decide +kernel) ⟨_, rfl, ifY (by decide +kernel) ?_⟩⟩
    refine ⟨_, rfl, β.bc, dx, _, rfl, hob, bf_no _ _ _ _ (by decide +kernel), _, rfl, c, _, _, _, rfl, rfl, .inl (.inl hc), atI_nat (j := 1) rfl, Hb, Pr, β, S, L, stk, vis, m, y, rfl, B, by omega, fun k hk H' sm => keepQ k hk (B.vs y k (List.mem_of_getLast? hk)) H' sm, fun hk => x hk⟩
  · obtain ⟨c, u1, u2, rfl, hc, _⟩ := he
    refine ⟨_, rfl, c, _, _, _, rfl, rfl, .inl (.inl hc), atI_nat (j := 0) rfl, _, rfl, ifN (by decide +kernel) ⟨_, rfl, ifN (by decide +kernel) ⟨_, rfl, ifY (by decide +kernel) ?_⟩⟩⟩
    exact ⟨_, rfl, β.bc, dx, _, rfl, hob, bf_no _ _ _ _ (by decide +kernel), _, rfl, c, _, _, _, rfl, rfl, .inl (.inl hc), atI_nat (j := 1) rfl, _, rfl, Hb, Pr, β, S, L, stk, vis, m, y, pl, ps, rfl, B, by omega, hpl, pm, op, fun h1 h2 => keepQ .num (if_pos ⟨h1, h2⟩) B.tb.num_mem H (Same.refl H), fun h => (x (if_neg h)).2 H (Same.refl H)⟩
  · obtain ⟨c, u1, rfl, hc, _⟩ := he
    match ps, pn, hpl, pm, q, x, keepQ with
    | [p0], _, hpl, pm, q, x, keepQ =>
      refine ⟨_, rfl, c, _, _, _, rfl, rfl, .inl (.inl hc), atI_nat (j := 0) rfl, _, rfl, ifN (by decide +kernel) ⟨_, rfl, ifN (by decide +kernel) ⟨_, rfl, ifN (by decide +kernel) ⟨_, rfl, ifY (by decide +kernel) ?_⟩⟩⟩⟩
      refine ⟨_, rfl, β.bc, dx, _, rfl, hob, bf_no _ _ _ _ (by decide +kernel), _, rfl, c, _, _, _, rfl, rfl, .inl (.inl hc), atI_nat (j := 1) rfl, _, rfl, pl, _, _, _, rfl, rfl, SqL.of hpl, atI_nat (j := 0) rfl, Hb, Pr, β, S, L, stk, vis, m, y, p0, rfl, B, by omega, pm _ (by simp), fun g r0 hf hk hr0 => keepQ r0 (by simp only [kof, hf, hk, if_true]) hr0 H (Same.refl H), fun h => ?_⟩
      have kn : kof S vis (.call y p1) [p0] = none := by
        simp only [kof]
        cases hf : find S y with
        | none => rfl
        | some gr => exact if_neg (h gr.1 gr.2 hf)
      obtain ⟨x1, x2⟩ := x kn
      exact ⟨fun _ => x1, x2 H (Same.refl H)⟩
end
end K2

namespace K2
open PySem PySem.Spec PyProof.Rows L2
theorem Rw_first (ps : List Kd) : Rw "first" ps = R_first ps := by unfold Rw; rw [if_pos rfl]
theorem Rw_second (ps : List Kd) : Rw "second" ps = R_second ps := by unfold Rw; rw [if_neg (by decide +kernel), if_pos rfl]
theorem Rw_iota (ps : List Kd) : Rw "iota" ps = R_iota ps := by unfold Rw; rw [if_neg (by decide +kernel), if_neg (by decide +kernel), if_pos rfl]
theorem Rw_len (ps : List Kd) : Rw "len" ps = R_len ps := by unfold Rw; rw [if_neg (by decide +kernel), if_neg (by decide +kernel), if_neg (by decide +kernel), if_pos rfl]
theorem Rw_sum (ps : List Kd) : Rw "sum" ps = R_sum ps := by unfold Rw; rw [if_neg (by decide +kernel), if_neg (by decide +kernel), if_neg (by decide +kernel), if_neg (by decide +kernel), if_pos rfl]
theorem Rw_flat (ps : List Kd) : Rw "flat" ps = R_flat ps := by unfold Rw; rw [if_neg (by decide +kernel), if_neg (by decide +kernel), if_neg (by decide +kernel), if_neg (by decide +kernel), if_neg (by decide +kernel), if_pos rfl]
theorem Rw_pair (ps : List Kd) : Rw "pair" ps = R_pair ps := by unfold Rw; rw [if_neg (by decide +kernel), if_neg (by decide +kernel), if_neg (by decide +kernel), if_neg (by decide +kernel), if_neg (by decide +kernel), if_neg (by decide +kernel), if_pos rfl]
theorem Rw_at (ps : List Kd) : Rw "at" ps = R_at ps := by unfold Rw; rw [if_neg (by decide +kernel), if_neg (by decide +kernel), if_neg (by decide +kernel), if_neg (by decide +kernel), if_neg (by decide +kernel), if_neg (by decide +kernel), if_neg (by decide +kernel), if_pos rfl]
theorem Rw_keep (ps : List Kd) : Rw "keep" ps = R_keep ps := by unfold Rw; rw [if_neg (by decide +kernel), if_neg (by decide +kernel), if_neg (by decide +kernel), if_neg (by decide +kernel), if_neg (by decide +kernel), if_neg (by decide +kernel), if_neg (by decide +kernel), if_neg (by decide +kernel), if_pos rfl]
theorem Rw_append (ps : List Kd) : Rw "append" ps = R_append ps := by unfold Rw; rw [if_neg (by decide +kernel), if_neg (by decide +kernel), if_neg (by decide +kernel), if_neg (by decide +kernel), if_neg (by decide +kernel), if_neg (by decide +kernel), if_neg (by decide +kernel), if_neg (by decide +kernel), if_neg (by decide +kernel), if_pos rfl]
section
variable {P : Program} {w : World} {K : PySem.W.Frag} {mg : Str → Option Value} {base : Heap} {a : TAd} {r : RAd} {b : BAd}
theorem ok_kind_of (T : BTxt w K mg a r b) : FnOk P w K mg base (L2.CX P w) 4 b.kind_of.1 b.kind_of.2 ["self", "e", "parts"] (spKof a.C b.CB a.KindError) := by
  refine T.kind_of.F.okX sc_BodyCheck_kind_of (fun vs H Q E h => ?_) (fun cdv A outer s H vs Q E hr h => ?_)
  · obtain ⟨_, _, _, _, _, _, _, _, _, _, _, _, rfl, _⟩ := h
    rfl
  obtain ⟨v, Hb, Pr, β, S, L, stk, vis, m, e, pl, ps, rfl, I⟩ := h
  cases e with
  | num i => exact kof_of T T.R.k_let (ok_k_let T.R) T.r_let I hr (.inr (.inl ⟨i, rfl⟩))
  | var x => exact kof_of T T.R.k_let (ok_k_let T.R) T.r_let I hr (.inr (.inr (.inl ⟨x, rfl⟩)))
  | op x p q => exact kof_of T T.R.k_let (ok_k_let T.R) T.r_let I hr (.inr (.inr (.inr (.inl ⟨x, p, q, rfl⟩))))
  | call x p => exact kof_of T T.R.k_let (ok_k_let T.R) T.r_let I hr (.inr (.inr (.inr (.inr ⟨x, p, rfl⟩))))
  | bnd h x p q =>
    obtain ⟨c, u1, u2, ev, hc, h1, h2⟩ := I.he
    cases h with
    | false => exact kof_of T T.R.k_let (ok_k_let T.R) T.r_let I hr (.inl ⟨c, _, ev, hc, by decide +kernel, by decide +kernel, by decide +kernel, by decide +kernel, rfl, rfl⟩)
    | true => exact kof_of T T.R.k_each (ok_k_each T.R) T.r_each I hr (.inl ⟨c, _, ev, hc, by decide +kernel, by decide +kernel, by decide +kernel, by decide +kernel, rfl, rfl⟩)
  | ite p q z =>
    obtain ⟨c, u0, u1, u2, ev, hc, h0, h1, h2⟩ := I.he
    exact kof_of T T.R.k_if (ok_k_if T.R) T.r_if I hr (.inl ⟨c, _, ev, hc, by decide +kernel, by decide +kernel, by decide +kernel, by decide +kernel, rfl, rfl⟩)
  | f1 w1 p =>
    obtain ⟨c, u, ev, hc, h1⟩ := I.he
    have hw := I.wf.1
    simp only [w1s, List.mem_cons, List.not_mem_nil, or_false] at hw
    rcases hw with rfl | rfl | rfl | rfl | rfl | rfl
    · exact kof_of T T.R.k_first (ok_k_first T.R) T.r_first I hr (.inl ⟨c, _, ev, hc, by decide +kernel, by decide +kernel, by decide +kernel, by decide +kernel, rfl, Rw_first _⟩)
    · exact kof_of T T.R.k_second (ok_k_second T.R) T.r_second I hr (.inl ⟨c, _, ev, hc, by decide +kernel, by decide +kernel, by decide +kernel, by decide +kernel, rfl, Rw_second _⟩)
    · exact kof_of T T.R.k_iota (ok_k_iota T.R) T.r_iota I hr (.inl ⟨c, _, ev, hc, by decide +kernel, by decide +kernel, by decide +kernel, by decide +kernel, rfl, Rw_iota _⟩)
    · exact kof_of T T.R.k_len (ok_k_len T.R) T.r_len I hr (.inl ⟨c, _, ev, hc, by decide +kernel, by decide +kernel, by decide +kernel, by decide +kernel, rfl, Rw_len _⟩)
    · exact kof_of T T.R.k_sum (ok_k_sum T.R) T.r_sum I hr (.inl ⟨c, _, ev, hc, by decide +kernel, by decide +kernel, by decide +kernel, by decide +kernel, rfl, Rw_sum _⟩)
    · exact kof_of T T.R.k_flat (ok_k_flat T.R) T.r_flat I hr (.inl ⟨c, _, ev, hc, by decide +kernel, by decide +kernel, by decide +kernel, by decide +kernel, rfl, Rw_flat _⟩)
  | f2 w1 p q =>
    obtain ⟨c, u, y, ev, hc, h1, h2⟩ := I.he
    have hw := I.wf.1
    simp only [w2s, List.mem_cons, List.not_mem_nil, or_false] at hw
    rcases hw with rfl | rfl | rfl | rfl
    · exact kof_of T T.R.k_pair (ok_k_pair T.R) T.r_pair I hr (.inl ⟨c, _, ev, hc, by decide +kernel, by decide +kernel, by decide +kernel, by decide +kernel, rfl, Rw_pair _⟩)
    · exact kof_of T T.R.k_at (ok_k_at T.R) T.r_at I hr (.inl ⟨c, _, ev, hc, by decide +kernel, by decide +kernel, by decide +kernel, by decide +kernel, rfl, Rw_at _⟩)
    · exact kof_of T T.R.k_keep (ok_k_keep T.R) T.r_keep I hr (.inl ⟨c, _, ev, hc, by decide +kernel, by decide +kernel, by decide +kernel, by decide +kernel, rfl, Rw_keep _⟩)
    · exact kof_of T T.R.k_append (ok_k_append T.R) T.r_append I hr (.inl ⟨c, _, ev, hc, by decide +kernel, by decide +kernel, by decide +kernel, by decide +kernel, rfl, Rw_append _⟩)
end
end K2

namespace K2
open PySem PySem.Spec PyProof.Rows L2
section
variable {CT CB : Addr} {Hb H H' : Hp} {Pr : Addr → Prop} {β : Bc} {S : Sg} {L stk : List Kd} {vis : Str → List Kd} {m : Nat}
/-- one object is another one, no tuple, none of the table's -/
theorem TbAt.put {t : Tb} (h : TbAt CT H t L) {l : Addr} {u o : HO} (e : H l = some u) (n1 : l ≠ t.sl) (n2 : l ≠ t.nm) (n3 : l ≠ t.tb) (nt : ∀ xs, u ≠ .tup xs) : TbAt CT (upd H l o) t L := by
  obtain ⟨⟨dx, q1⟩, ⟨shs, q2, q3, q4⟩, ⟨kvs, q5, q6⟩, q7⟩ := h
  have kt : Kt H (upd H l o) := fun b xs e2 => by
    rw [upd_ne (fun z => by rw [z, e] at e2; exact nt xs (Option.some.inj e2))]; exact e2
  exact ⟨⟨dx, by rw [upd_ne n3.symm]; exact q1⟩, ⟨shs, by rw [upd_ne n1.symm]; exact q2, q3, fun i k h => let ⟨v, a1, b1, c1, d1⟩ := q4 i k h; ⟨v, a1, b1, c1, kt _ _ d1⟩⟩, ⟨kvs, by rw [upd_ne n2.symm]; exact q5, q6⟩, q7⟩
theorem BSt.same (h : BSt CT CB Hb Pr H β S L stk vis m) (s : Same H H') : BSt CT CB Hb Pr H' β S L stk vis m := by
  obtain ⟨⟨dx, ob⟩, tb, ⟨skv, sg, sgo⟩, dn, sk, ⟨vkv, vd, vdl, vso⟩, vs, ds, sv, pr, pb, keep, ln⟩ := h
  refine ⟨⟨dx, s _ _ ob⟩, tb.keep s, ⟨skv, s _ _ sg, ⟨sgo.no, fun x v e => ?_⟩⟩, s _ _ dn, sk, ⟨vkv, s _ _ vd, vdl, ⟨vso.no, fun x v e => ?_, vso.inj⟩⟩, vs, ds, sv, pr, pb, fun b o p e => s _ _ (keep b o p e), ln⟩
  · obtain ⟨b, g, r, e1, e2, e3⟩ := sgo.yes x v e
    exact ⟨b, g, r, e1, s _ _ e2, e3⟩
  · obtain ⟨l, e1, e2, e3⟩ := vso.yes x v e
    exact ⟨l, e1, s _ _ e2, e3⟩
theorem BSt.more (h : BSt CT CB Hb Pr H β S L stk vis m) {n : Nat} (hn : m ≤ n) : BSt CT CB Hb Pr H β S L stk vis n := by
  obtain ⟨ob, tb, sg, dn, sk, ⟨vkv, vd, vdl, vso⟩, vs, ds, sv, pr, pb, keep, ln⟩ := h
  exact ⟨ob, tb, sg, dn, sk, ⟨vkv, vd, by omega, vso⟩, vs, ds, sv, pr, pb, keep, by omega, by omega, fun x => Nat.le_trans (ln.2.2 x) hn⟩
/-- another stack -/
theorem BSt.stack (h : BSt CT CB Hb Pr H β S L stk vis m) {st : List Kd} (hs : ∀ k ∈ st, k ∈ L) (hl : st.length ≤ m + 1) : BSt CT CB Hb Pr (upd H β.dn (.lst (ixs L st))) β S L st vis (m + 1) := by
  obtain ⟨⟨dx, ob⟩, tb, ⟨skv, sg, sgo⟩, dn, sk, ⟨vkv, vd, vdl, vso⟩, vs, ds, sv, pr, pb, keep, ln⟩ := h
  obtain ⟨dt, tob⟩ := tb.ob
  obtain ⟨kvs, hn, _⟩ := id tb.nu
  have kt : Kt H (upd H β.dn (.lst (ixs L st))) := fun b xs e2 => by rw [upd_ne (fun z => by rw [z, dn] at e2; cases e2)]; exact e2
  refine ⟨⟨dx, by rw [upd_ne (ne_of ob dn (fun z => nomatch z))]; exact ob⟩, tb.put dn ds (ne_of dn hn (fun z => nomatch z)) (ne_of dn tob (fun z => nomatch z)) (fun _ z => nomatch z), ⟨skv, by rw [upd_ne (ne_of sg dn (fun z => nomatch z))]; exact sg, ⟨sgo.no, fun x v e => ?_⟩⟩, upd_same, hs, ⟨vkv, by rw [upd_ne (ne_of vd dn (fun z => nomatch z))]; exact vd, by omega, ⟨vso.no, fun x v e => ?_, vso.inj⟩⟩, vs, ds, sv, pr, pb, fun b o p e => ?_, by omega, hl, fun x => Nat.le_succ_of_le (ln.2.2 x)⟩
  · obtain ⟨b, g, r, e1, e2, e3⟩ := sgo.yes x v e
    exact ⟨b, g, r, e1, kt _ _ e2, e3⟩
  · obtain ⟨l, e1, e2, e3, e4⟩ := vso.yes x v e
    exact ⟨l, e1, by rw [upd_ne e3]; exact e2, e3, e4⟩
  · rw [upd_ne (fun z => pr.2.2.2 (by rw [← z]; exact p))]; exact keep b o p e
/-- another list of a name's kinds -/
theorem BSt.setv (h : BSt CT CB Hb Pr H β S L stk vis m) {kvs0 : List (L2.Key × V)} (h0 : H β.vd = some (.dK kvs0)) {x : Str} {l : Addr} (hv : valV kvs0 (.inr x) = some (.ref l)) {ks : List Kd} (hs : ∀ k ∈ ks, k ∈ L) (hl : ks.length ≤ m + 1) :
    BSt CT CB Hb Pr (upd H l (.lst (ixs L ks))) β S L stk (fun y => if y = x then ks else vis y) (m + 1) := by
  obtain ⟨⟨dx, ob⟩, tb, ⟨skv, sg, sgo⟩, dn, sk, ⟨vkv, vd, vdl, vso⟩, vs, ds, sv, pr, pb, keep, ln⟩ := h
  rw [vd] at h0
  cases h0
  obtain ⟨l', el, hll, l1, l2, l3⟩ := vso.yes x _ hv
  cases el
  obtain ⟨dt, tob⟩ := tb.ob
  obtain ⟨kvs, hn, _⟩ := id tb.nu
  have kt : Kt H (upd H l (.lst (ixs L ks))) := fun b xs e2 => by rw [upd_ne (fun z => by rw [z, hll] at e2; cases e2)]; exact e2
  refine ⟨⟨dx, by rw [upd_ne (ne_of ob hll (fun z => nomatch z))]; exact ob⟩, tb.put hll l2 (ne_of hll hn (fun z => nomatch z)) (ne_of hll tob (fun z => nomatch z)) (fun _ z => nomatch z), ⟨skv, by rw [upd_ne (ne_of sg hll (fun z => nomatch z))]; exact sg, ⟨sgo.no, fun x v e => ?_⟩⟩, by rw [upd_ne l1.symm]; exact dn, sk, ⟨_, by rw [upd_ne (ne_of vd hll (fun z => nomatch z))]; exact vd, by omega, ⟨fun y e => ?_, fun y v e => ?_, vso.inj⟩⟩, fun y k hk => ?_, ds, sv, pr, pb, fun b o p e => ?_, by omega, by omega, fun y => ?_⟩
  · obtain ⟨b, g, r, e1, e2, e3⟩ := sgo.yes x v e
    exact ⟨b, g, r, e1, kt _ _ e2, e3⟩
  · have c : ¬ y = x := fun z => by rw [z, hv] at e; cases e
    show (if y = x then ks else vis y) = []
    rw [if_neg c]; exact vso.no y e
  · obtain ⟨l', e1, e2, e3, e4⟩ := vso.yes y v e
    by_cases c : y = x
    · subst c
      rw [hv] at e
      cases e
      cases e1
      refine ⟨l, rfl, ?_, e3, e4⟩
      show _ = some (HO.lst (ixs L (if y = y then ks else vis y)))
      rw [if_pos rfl]; exact upd_same
    · refine ⟨l', e1, ?_, e3, e4⟩
      show _ = some (HO.lst (ixs L (if y = x then ks else vis y)))
      rw [if_neg c, upd_ne (fun z => c (vso.inj y x _ e (by rw [e1, z]; exact hv)))]
      exact e2
  · have hk' : k ∈ (if y = x then ks else vis y) := hk
    by_cases c : y = x
    · rw [if_pos c] at hk'; exact hs k hk'
    · rw [if_neg c] at hk'; exact vs y k hk'
  · rw [upd_ne (fun z => l3 (by rw [← z]; exact p))]; exact keep b o p e
  · show (if y = x then ks else vis y).length ≤ m + 1
    by_cases c : y = x
    · rw [if_pos c]; exact hl
    · rw [if_neg c]; exact Nat.le_succ_of_le (ln.2.2 y)
/-- a new name, its list is empty -/
theorem BSt.newv (h : BSt CT CB Hb Pr H β S L stk vis m) {kvs0 : List (L2.Key × V)} (h0 : H β.vd = some (.dK kvs0)) {x : Str} {p : Addr} (hv : valV kvs0 (.inr x) = none) (hp : H p = none) :
    BSt CT CB Hb Pr (upd (upd H p (.lst [])) β.vd (.dK (putK kvs0 (.inr x) (.ref p)))) β S L stk vis (m + 1) := by
  have h1 := h.same (same_new hp (.lst []))
  have nfree : ∀ b o, H b = some o → b ≠ p := fun b o e => ne_of_none e hp
  have hpp : ¬ Pr p := fun z => by
    obtain ⟨o, e⟩ := h.pb p z
    rw [h.keep p o z e] at hp; cases hp
  have ndn : p ≠ β.dn := (nfree _ _ h.dn).symm
  have nsl : p ≠ β.t.sl := by obtain ⟨shs, q2, _⟩ := h.tb.sh; exact (nfree _ _ q2).symm
  obtain ⟨_, hv0, _, vo0⟩ := h.vd
  rw [h0] at hv0
  cases hv0
  have pn : p ≠ β.vd := (nfree _ _ h0).symm
  have hpe : (upd H p (.lst [])) p = some (.lst []) := upd_same
  have h01 := (same_new hp (.lst [])) _ _ h0
  have olds : ∀ x l, valV kvs0 (.inr x) = some (.ref l) → l ≠ p := fun x l e => by
    obtain ⟨l', e1, e2, _⟩ := vo0.yes x _ e
    cases e1
    exact nfree _ _ e2
  generalize upd H p (.lst []) = H1 at h1 hpe h01
  obtain ⟨⟨dx, ob⟩, tb, ⟨skv, sg, sgo⟩, dn, sk, ⟨vkv, vd, vdl, vso⟩, vs, ds, sv, pr, pb, keep, ln⟩ := h1
  rw [vd] at h01
  cases h01
  obtain ⟨dt, tob⟩ := tb.ob
  obtain ⟨kvs, hn, _⟩ := id tb.nu
  obtain ⟨shs, hs0, _⟩ := id tb.sh
  have kt : ∀ o, Kt H1 (upd H1 β.vd (.dK o)) := fun o b xs e2 => by rw [upd_ne (fun z => by rw [z, vd] at e2; cases e2)]; exact e2
  have tvn : β.vd ≠ β.t.nm := ne_of vd hn (fun z => nomatch z)
  refine ⟨⟨dx, by rw [upd_ne (ne_of ob vd (fun z => nomatch z))]; exact ob⟩, tb.put vd (ne_of vd hs0 (fun z => nomatch z)) tvn (ne_of vd tob (fun z => nomatch z)) (fun _ z => nomatch z), ⟨skv, by rw [upd_ne sv]; exact sg, ⟨sgo.no, fun x v e => ?_⟩⟩, by rw [upd_ne (ne_of dn vd (fun z => nomatch z))]; exact dn, sk, ⟨_, upd_same, ?_, ⟨fun y e => ?_, fun y v e => ?_, fun y z v e1 e2 => ?_⟩⟩, vs, ds, sv, pr, pb, fun b o p e => ?_, by omega, by omega, fun y => Nat.le_succ_of_le (ln.2.2 y)⟩
  · obtain ⟨b, g, r, e1, e2, e3⟩ := sgo.yes x v e
    exact ⟨b, g, r, e1, kt _ _ _ e2, e3⟩
  · have := length_putK kvs0 (.inr x) (.ref p)
    omega
  · rw [valV_put] at e
    by_cases c : y = x
    · rw [if_pos (by rw [c])] at e; cases e
    · rw [if_neg (fun z => c (Sum.inr.inj z))] at e
      exact vso.no y e
  · rw [valV_put] at e
    by_cases c : y = x
    · rw [if_pos (by rw [c])] at e
      cases e
      refine ⟨p, rfl, ?_, ndn, nsl, hpp⟩
      rw [upd_ne pn, c, vso.no x hv]
      exact hpe
    · rw [if_neg (fun z => c (Sum.inr.inj z))] at e
      obtain ⟨l, e1, e2, e3⟩ := vso.yes y v e
      exact ⟨l, e1, by rw [upd_ne (ne_of e2 vd (fun z => nomatch z))]; exact e2, e3⟩
  · rw [valV_put] at e1 e2
    by_cases c1 : y = x
    · by_cases c2 : z = x
      · rw [c1, c2]
      · rw [if_pos (by rw [c1])] at e1
        rw [if_neg (fun z => c2 (Sum.inr.inj z))] at e2
        cases e1
        exact absurd rfl (olds z p e2)
    · rw [if_neg (fun z => c1 (Sum.inr.inj z))] at e1
      by_cases c2 : z = x
      · rw [if_pos (by rw [c2])] at e2
        cases e2
        exact absurd rfl (olds y p e1)
      · rw [if_neg (fun z => c2 (Sum.inr.inj z))] at e2
        exact vso.inj y z v e1 e2
  · rw [upd_ne (fun z => pr.2.2.1 (by rw [← z]; exact p))]; exact keep b o p e
end
end K2

namespace K2
open PySem PySem.Spec PyProof.Rows L2
theorem bw_each (h : Bool) : decide (V.str (bw h) = V.str "each") = h := by cases h <;> decide +kernel
section
variable {P : Program} {w : World} {K : PySem.W.Frag} {mg : Str → Option Value} {base : Heap} {a : TAd} {r : RAd} {b : BAd}
def spBindK (CT CB D : Addr) : Sp := fun vs H Q E => ∃ (Hb : Hp) (Pr : Addr → Prop) (β : Bc) (S : Sg) (L stk : List Kd) (vis : Str → List Kd) (m : Nat) (v : V) (h : Bool) (x : Str) (p q : Ex) (k : Kd), vs = [.ref β.bc, v] ∧ BSt CT CB Hb Pr H β S L stk vis m ∧ m < 999000 ∧ ExAt H (.bnd h x p q) v ∧ stk.getLast? = some k ∧
  (∀ j, (if h = true then k = .seq j else k = j) → ∀ H', BSt CT CB Hb Pr H' β S L stk (fun y => if y = x then vis x ++ [j] else vis y) (m + 2) → Q .non H') ∧ ((h = true ∧ ∀ j, ¬ k = .seq j) → ∀ H', (∀ b o, Pr b → Hb b = some o → H' b = some o) → E (.ref D) none H')
theorem ok_bind (T : BTxt w K mg a r b) : FnOk P w K mg base (L2.CX P w) 3 b.bind.1 b.bind.2 ["self", "e"] (spBindK a.C b.CB a.KindError) := by
  refine T.bind.F.okX sc_BodyCheck_bind (fun vs H Q E h => ?_) (fun cdv A outer s H vs Q E hr h => ?_)
  · obtain ⟨_, _, _, _, _, _, _, _, _, _, _, _, _, _, rfl, _⟩ := h
    rfl
  obtain ⟨Hb, Pr, β, S, L, stk, vis, m, v, h, x, p, q, k, rfl, B, hm, he, hk, qq, ee⟩ := h
  have nd := sc_BodyCheck_bind.nd
  have G_element := ok_element (P := P) (w := w) (base := base) T.R.T
  have big : ∀ n, n ≤ 3000010 → n < sizeLine := fun n h => Nat.lt_of_le_of_lt h (by decide)
  obtain ⟨dx, hob⟩ := B.ob
  obtain ⟨dt, htb⟩ := B.tb.ob
  obtain ⟨c0, u1, u2, rfl, hc, _⟩ := he
  have km : k ∈ L := B.sk k (List.mem_of_getLast? hk)
  have last : atI (ixs L stk) (-1) = some (.int (ix L k)) := atI_lst (by unfold ixs; rw [List.getLast?_map, hk]; rfl)
  obtain ⟨tr, hb, hread⟩ : ∃ tr, PSs (cxOf (L2.CX P w) P w K mg base ["self", "e", "kind"] "BodyCheck.bind" (defScope s_BodyCheck_bind) b.bind.1 cdv A outer s H E) ((defBody s_BodyCheck_bind).drop 2) tr ∧
      ∀ (j : Kd) (H1 : Hp), j ∈ L → BSt a.C b.CB Hb Pr H1 β S L stk vis m → H1 c0 = some (.tup [.str (bw h), .str x, u1, u2]) → (if h = true then k = .seq j else k = j) → tr { nx := fun _ H' => Q .non H', rt := Q } [some (.ref β.bc), some (.ref c0), some (.int (ix L j))] H1 := by
    refine ⟨_, (pss_one (ps_expr (pe_bm PySem.F.plainAttrs_list PySem.F.slot_list_append PySem.F.type_list_append mt_append (pe_dsetd (pe_fld (pv 0) rfl) (pe_ix ix_tup (pv 1) pe_int (fun _ _ => rfl)) (pe_lst pa_nil) ⟨rfl, rfl, rfl, rfl⟩) (pa_cons (pv 2) pa_nil)))), fun j H1 jm B1 hc1 hj => ?_⟩
    obtain ⟨dx, hob⟩ := B1.ob
    obtain ⟨kvs, hvd, kvl, vo⟩ := B1.vd
    refine ⟨_, rfl, β.bc, b.CB, dx, _, _, rfl, hob, T.cl, T.n_visible, bf_v _ _ _ _, β.vd, rfl, .inl ⟨kvs, .inl hvd⟩, _, rfl, c0, _, _, _, rfl, rfl, .inl (.inl hc1), atI_nat (j := 1) rfl, (by show 0 ≤ sizeLine; decide), fun np hnp => ?_⟩
    have s1 := same_new hnp (.lst [])
    have vlen := B1.ln.2.2 x
    have lenx : (ixs L (vis x)).length < sizeLine := by unfold ixs; rw [List.length_map]; exact big _ (by omega)
    have jv : ∀ k' ∈ vis x ++ [j], k' ∈ L := fun k' h' => by
      rcases List.mem_append.mp h' with h' | h'
      · exact B1.vs x k' h'
      · rw [List.mem_singleton.mp h']; exact jm
    have jl : (vis x ++ [j]).length ≤ m + 1 := by rw [List.length_append]; show _ + 1 ≤ _; omega
    have eapp : ixs L (vis x) ++ [V.int (ix L j)] = ixs L (vis x ++ [j]) := by unfold ixs; rw [List.map_append]; rfl
    refine ⟨kvs, .inr x, s1 _ _ hvd, rfl, big _ (by omega), fun v0 hv0 => ?_, fun hv0 => ?_⟩
    · obtain ⟨l, rfl, hl, _⟩ := vo.yes x v0 hv0
      have B2 := B1.same s1
      have hl2 := s1 _ _ hl
      refine ⟨.inl ⟨rfl, _, SqL.of hl2⟩, _, rfl, l, _, _, rfl, rfl, hl2, lenx, ?_⟩
      refine qq j hj _ ?_
      rw [eapp]
      have B3 := B2.setv (s1 _ _ hvd) hv0 jv jl
      exact B3.more (by omega)
    · have B2 := B1.newv hvd hv0 hnp
      have pn : np ≠ β.vd := (ne_of_none hvd hnp).symm
      have e0 := vo.no x hv0
      have hl2 : (upd (upd H1 np (.lst [])) β.vd (.dK (putK kvs (.inr x) (.ref np)))) np = some (.lst (ixs L (vis x))) := by rw [upd_ne pn, upd_same, e0]; rfl
      refine ⟨.inl ⟨rfl, _, SqL.of hl2⟩, _, rfl, np, _, _, rfl, rfl, hl2, lenx, ?_⟩
      refine qq j hj _ ?_
      rw [eapp]
      exact B2.setv (x := x) (l := np) upd_same (by rw [valV_put, if_pos rfl]) jv (by omega)
  refine ⟨_, (pss_cons (ps_set (i := 2) nd rfl (Or.inl rfl) (pe_ix ix_list (pe_fld (pv 0) rfl) (pe_un un_neg pe_int) (fun _ _ => rfl)))
  (pss_cons (ps_if (pt_cmpR op_eq (pe_ix ix_tup (pv 1) pe_int (fun _ _ => rfl)) pe_str (nomark _)) (pss_one (ps_set (i := 2) nd rfl (Or.inl rfl) (pe_meth (pe_fld (pv 0) rfl) T.R.T.cl T.R.T.element.m G_element (hr.mono (by omega)) T.R.T.element.b .nil (passes_call (takes_of rfl rfl rfl rfl) (fun _ _ _ _ h => h)) (pa_cons (pv 2) pa_nil)))) pss_nil)
  hb)), ?_⟩
  refine ⟨_, rfl, β.bc, b.CB, dx, _, _, rfl, hob, T.cl, T.n_done, bf_d _ _ _ _, _, rfl, β.dn, _, _, _, rfl, rfl, SqL.of B.dn, last, ?_⟩
  refine ⟨_, rfl, c0, _, _, _, rfl, rfl, .inl (.inl hc), atI_nat (j := 0) rfl, rfl, _, rfl, ?_⟩
  rw [bw_each]
  cases h with
  | false => exact ifF rfl (hread k H km B hc rfl)
  | true =>
    refine ifT rfl ?_
    refine ⟨_, rfl, β.bc, b.CB, dx, _, _, rfl, hob, T.cl, T.n_table, bf_t _ _ _ _, β.t.tb, dt, _, rfl, htb, tf_no _ _ (by decide +kernel) (by decide +kernel), _, rfl, β.t, L, k, rfl, B.tb, km, fun j ej H' sm => ?_, fun nj => ee ⟨rfl, nj⟩ H B.keep⟩
    exact hread j H' (B.tb.ok.cl k km j (by rw [ej]; simp [comps])) (B.same sm) (sm _ _ hc) ej
end
end K2

namespace K2
open PySem PySem.Spec PyProof.Rows L2
def vis1 (vis : Str → List Kd) : Ex → Str → List Kd
  | .bnd _ x _ _ => fun y => if y = x then (vis x).dropLast else vis y
  | _ => vis
theorem vis1_not {vis : Str → List Kd} {e : Ex} (h : e.binds = false) : vis1 vis e = vis := by cases e <;> first | rfl | cases h
section
variable {P : Program} {w : World} {K : PySem.W.Frag} {mg : Str → Option Value} {base : Heap} {a : TAd} {r : RAd} {b : BAd} {pa : PAd}
def spLeaveK (CT CB D : Addr) : Sp := fun vs H Q E => ∃ (Hb : Hp) (Pr : Addr → Prop) (β : Bc) (S : Sg) (L st0 ps : List Kd) (vis : Str → List Kd) (m : Nat) (v : V) (e : Ex), vs = [.ref β.bc, v] ∧ BSt CT CB Hb Pr H β S L (st0 ++ ps) vis m ∧ m < 999000 ∧ ExAt H e v ∧ e.wf ∧ e.opOk ∧ ps.length = e.parts.length ∧
  (∀ h x p q, e = .bnd h x p q → vis x ≠ []) ∧
  (∀ k, kof S (vis1 vis e) e ps = some k → ∀ (H' : Hp) (L' : List Kd), More L L' → BSt CT CB Hb Pr H' β S L' (st0 ++ [k]) (vis1 vis e) (m + 5) → Q .non H') ∧ (kof S (vis1 vis e) e ps = none → e.short ∧ ∀ H', (∀ b o, Pr b → Hb b = some o → H' b = some o) → E (.ref D) none H')
theorem ok_leave (T : BTxt w K mg a r b) (TP : PTxt K mg pa) : FnOk P w K mg base (L2.CX P w) 5 b.leave.1 b.leave.2 ["self", "e"] (spLeaveK a.C b.CB a.KindError) := by
  refine T.leave.F.okX sc_BodyCheck_leave (fun vs H Q E h => ?_) (fun cdv A outer s H vs Q E hr h => ?_)
  · obtain ⟨_, _, _, _, _, _, _, _, _, _, _, rfl, _⟩ := h
    rfl
  obtain ⟨Hb, Pr, β, S, L, st0, ps, vis, m, v, e, rfl, B, hm, he, hw, hop, hpn, hvx, qq, ee⟩ := h
  have nd := sc_BodyCheck_leave.nd
  have hu := hu_of hr
  have G_taken_off := ok_taken_off (P := P) (w := w) (base := base) T.R.T
  have G_parts_of := ok_parts_of (P := P) (w := w) (base := base) TP
  have G_kind_of := ok_kind_of (P := P) (base := base) T
  have big : ∀ n, n ≤ 3000010 → n < sizeLine := fun n h => Nat.lt_of_le_of_lt h (by decide)
  have pl3 := parts_len e
  obtain ⟨tr, hb, hread⟩ : ∃ tr, PSs (cxOf (L2.CX P w) P w K mg base ["self", "e", "parts"] "BodyCheck.leave" (defScope s_BodyCheck_leave) b.leave.1 cdv A outer s H E) ((defBody s_BodyCheck_leave).drop 1) tr ∧
      ∀ (H1 : Hp), BSt a.C b.CB Hb Pr H1 β S L (st0 ++ ps) (vis1 vis e) (m + 1) → ExAt H1 e v → tr { nx := fun _ H' => Q .non H', rt := Q } [some (.ref β.bc), some v, none] H1 := by
    refine ⟨_, (pss_cons (ps_set (i := 2) nd rfl (Or.inl rfl) (pe_call G_taken_off (hr.mono (by omega)) rfl T.R.T.taken_off.g T.R.T.taken_off.F.kp T.R.T.taken_off.b .nil pass0 (pa_cons (pe_fld (pv 0) rfl) (pa_cons (pe_callB call_len_seq (by rfl) T.R.T.len PySem.boot_len (pa_cons (pe_call G_parts_of (hr.mono (by omega)) rfl TP.parts_of.g TP.parts_of.F.kp TP.parts_of.b .nil pass0 (pa_cons (pv 1) pa_nil)) pa_nil)) pa_nil))))
  (pss_one (ps_expr (pe_bm PySem.F.plainAttrs_list PySem.F.slot_list_append PySem.F.type_list_append mt_append (pe_fld (pv 0) rfl) (pa_cons (pe_meth (pv 0) T.cl T.kind_of.m G_kind_of (hr.mono (by omega)) T.kind_of.b .nil (passes_call (takes_of rfl rfl rfl rfl) (fun _ _ _ _ h => h)) (pa_cons (pv 1) (pa_cons (pv 2) pa_nil))) pa_nil))))), fun H1 B1 he1 => ?_⟩
    obtain ⟨dx, hob⟩ := B1.ob
    have sl1 := B1.ln.2.1
    have lps : (ixs L (st0 ++ ps)).length = st0.length + ps.length := by unfold ixs; rw [List.length_map, List.length_append]
    refine ⟨_, rfl, β.bc, b.CB, dx, _, _, rfl, hob, T.cl, T.n_done, bf_d _ _ _ _, _, rfl, v, e, rfl, he1, hw, fun H2 p2 us s2 hp2 hus2 hus => ?_⟩
    have B2 := B1.same s2
    have ul := hus.len
    refine ⟨p2, us, rfl, .inl (SqL.of hus2), β.dn, _, ps.length, _, rfl, by rw [ul, hpn], B2.dn, by rw [lps]; omega, fun H3 pl fr3 hpl0 hpl3 hdn3 => ?_⟩
    have e1 : (ixs L (st0 ++ ps)).drop ((ixs L (st0 ++ ps)).length - ps.length) = ixs L ps := by
      rw [lps, Nat.add_sub_cancel]
      unfold ixs
      rw [List.map_append]
      have : st0.length = (st0.map fun k => V.int (ix L k)).length := by rw [List.length_map]
      rw [this, List.drop_left]
    have e2 : (ixs L (st0 ++ ps)).take ((ixs L (st0 ++ ps)).length - ps.length) = ixs L st0 := by
      rw [lps, Nat.add_sub_cancel]
      unfold ixs
      rw [List.map_append]
      have : st0.length = (st0.map fun k => V.int (ix L k)).length := by rw [List.length_map]
      rw [this, List.take_left]
    rw [e1] at hpl3
    rw [e2] at hdn3
    have B3 : BSt a.C b.CB Hb Pr H3 β S L st0 (vis1 vis e) (m + 2) := by
      have z := B2.stack (st := st0) (fun k hk => B2.sk k (List.mem_append_left _ hk)) (by rw [List.length_append] at sl1; omega)
      refine z.same fun b o eo => ?_
      by_cases c : b = β.dn
      · rw [c, upd_same] at eo
        cases eo
        rw [c]; exact hdn3
      · rw [upd_ne c] at eo
        exact fr3 b o c eo
    have kt3 : Kt H2 H3 := fun b xs eo => fr3 b _ (fun z => by rw [z, B2.dn] at eo; cases eo) eo
    obtain ⟨dx3, hob3⟩ := B3.ob
    have nsl : pl ≠ β.t.sl := by
      obtain ⟨shs, q2, _⟩ := B2.tb.sh
      exact ref_ne hpl0 q2
    refine ⟨_, rfl, β.bc, b.CB, dx3, _, _, rfl, hob3, T.cl, T.n_done, bf_d _ _ _ _, .inl ⟨rfl, _, SqL.of B3.dn⟩, _, rfl, β.bc, dx3, _, rfl, hob3, bf_no _ _ _ _ (by decide +kernel), _, rfl, _, rfl, v, Hb, Pr, β, S, L, st0, vis1 vis e, m + 2, e, pl, ps, rfl, ⟨B3, by omega, (he1.kt (Kt.of s2)).kt kt3, hw, hop, hpl3, hpn, fun k hk => B2.sk k (List.mem_append_right _ hk), nsl, fun k hk H4 L4 f4 T4 ml4 ll4 km4 => ?_, fun hk => ⟨(ee hk).1, fun H4 sm4 => (ee hk).2 H4 fun b o p eo => sm4 _ _ (B3.keep b o p eo)⟩⟩⟩
    have B4 := B3.tfr f4 T4 ml4 ll4
    have st3 := B3.ln.2.1
    refine ⟨β.dn, _, _, rfl, rfl, B4.dn, by unfold ixs; rw [List.length_map]; exact big _ (by omega), ?_⟩
    have eapp : ixs L4 st0 ++ [V.int (ix L4 k)] = ixs L4 (st0 ++ [k]) := by unfold ixs; rw [List.map_append]; rfl
    rw [eapp]
    refine qq k hk _ L4 ml4 ((B4.stack (fun j hj => ?_) ?_).more (by omega))
    · rcases List.mem_append.mp hj with hj | hj
      · exact B4.sk j hj
      · rw [List.mem_singleton.mp hj]; exact km4
    · rw [List.length_append]; show _ + 1 ≤ _; omega
  refine ⟨_, (pss_cons (ps_if (pt_cmpR op_in_seq (pe_ix ix_tup (pv 1) pe_int (fun _ _ => rfl)) (pe_glob (v := .ref pa.BIND) rfl TP.gBIND rfl) (by rfl)) (pss_one (ps_expr (pe_bm0 PySem.F.plainAttrs_list PySem.F.slot_list_pop PySem.F.type_list_pop mt_pop (pe_dget hu (pe_fld (pv 0) rfl) (pe_ix ix_tup (pv 1) pe_int (fun _ _ => rfl)) (fun _ _ => rfl))))) pss_nil) hb), ?_⟩
  obtain ⟨c0, hw0, xs0, rfl, hb0, hin⟩ := head_binds he hw
  refine ⟨_, rfl, c0, _, _, _, rfl, rfl, .inl (.inl hb0), atI_nat (j := 0) rfl, ?_⟩
  refine ⟨_, _, rfl, .inr (TP.bind _), rfl, rfl, _, rfl, ?_⟩
  have hin' : (if false = true then !inV (.str hw0) [.str "let", .str "each"] else inV (.str hw0) [.str "let", .str "each"]) = e.binds := by rw [if_neg (by decide)]; exact hin
  cases hbb : e.binds with
  | false =>
    refine ifF (hin'.trans hbb) ?_
    exact hread H (by rw [vis1_not hbb]; exact B.more (by omega)) he
  | true =>
    refine ifT (hin'.trans hbb) ?_
    obtain ⟨h2, x, ea, eb, e0⟩ : ∃ h2 x ea eb, e = .bnd h2 x ea eb := by
      cases e with
      | bnd h2 x ea eb => exact ⟨h2, x, ea, eb, rfl⟩
      | _ => cases hbb
    subst e0
    obtain ⟨c1, u1, u2, ec, hc, _⟩ := id he
    cases ec
    obtain ⟨dx, hob⟩ := B.ob
    obtain ⟨kvs, hvd, kvl, vo⟩ := B.vd
    have hne := hvx h2 x ea eb rfl
    obtain ⟨l, hv, hl⟩ : ∃ l, valV kvs (.inr x) = some (.ref l) ∧ H l = some (.lst (ixs L (vis x))) := by
      cases hv : valV kvs (.inr x) with
      | none => exact absurd (vo.no x hv) hne
      | some v0 =>
        obtain ⟨l, e1, e2, _⟩ := vo.yes x v0 hv
        exact ⟨l, by rw [e1], e2⟩
    refine ⟨_, rfl, β.bc, b.CB, dx, _, _, rfl, hob, T.cl, T.n_visible, bf_v _ _ _ _, _, rfl, c0, _, _, _, rfl, rfl, .inl (.inl hc), atI_nat (j := 1) rfl, β.vd, _, rfl, by rw [← hv]; exact DGet.k (k := .inr x) hvd, ?_⟩
    obtain ⟨y, hy⟩ : ∃ y, (ixs L (vis x))[(ixs L (vis x)).length - 1]? = some y := by
      have : (ixs L (vis x)).length ≠ 0 := by unfold ixs; rw [List.length_map]; intro z; exact hne (List.length_eq_zero_iff.mp z)
      exact ⟨_, List.getElem?_eq_getElem (by omega)⟩
    refine ⟨.inl ⟨rfl, _, SqL.of hl⟩, l, _, y, rfl, rfl, hl, hy, ?_⟩
    have ed : (ixs L (vis x)).dropLast = ixs L (vis x).dropLast := by unfold ixs; rw [List.map_dropLast]
    rw [ed]
    have kt : Kt H (upd H l (.lst (ixs L (vis x).dropLast))) := fun b xs eo => by rw [upd_ne (fun z => by rw [z, hl] at eo; cases eo)]; exact eo
    have B1 := B.setv hvd hv (ks := (vis x).dropLast) (fun k hk => B.vs x k (List.dropLast_subset _ hk)) (by rw [List.length_dropLast]; have := B.ln.2.2 x; omega)
    exact hread _ B1 (he.kt kt)
end
end K2

namespace K2
open PySem PySem.Spec PyProof.Rows L2
/-! ### a check as a walk over the way -/
def Ex.allShort : Ex → Prop
  | .num _ => True
  | .var x => x.length ≤ 1000
  | .bnd _ _ a b | .op _ a b | .f2 _ a b => a.allShort ∧ b.allShort
  | .call f a => f.length ≤ 1000 ∧ a.allShort
  | .f1 _ a => a.allShort
  | .ite c a b => c.allShort ∧ a.allShort ∧ b.allShort
def Ex.allOp : Ex → Prop
  | .num _ | .var _ => True
  | .bnd _ _ a b | .f2 _ a b => a.allOp ∧ b.allOp
  | .op s a b => (s ∈ sgns ∨ s = "**") ∧ a.allOp ∧ b.allOp
  | .call _ a | .f1 _ a => a.allOp
  | .ite c a b => c.allOp ∧ a.allOp ∧ b.allOp
abbrev Vm := Str → List Kd
def Okr (S : Sg) (fin : Option (List Kd)) : List Sp2 → List Kd → Vm → Prop
  | [], stk, _ => fin = some stk
  | s :: ss, stk, vis =>
    (s.1 = "bind" ∧ ∃ h x p q k, s.2 = .bnd h x p q ∧ stk.getLast? = some k ∧ ((∃ j, (if h = true then k = .seq j else k = j) ∧ Okr S fin ss stk (fun y => if y = x then vis x ++ [j] else vis y)) ∨ ((h = true ∧ ∀ j, ¬ k = .seq j) ∧ fin = none))) ∨
    (s.1 = "leave" ∧ ∃ st0 ps, stk = st0 ++ ps ∧ ps.length = s.2.parts.length ∧ (∀ h x p q, s.2 = .bnd h x p q → vis x ≠ []) ∧ ((∃ k, kof S (vis1 vis s.2) s.2 ps = some k ∧ Okr S fin ss (st0 ++ [k]) (vis1 vis s.2)) ∨ (kof S (vis1 vis s.2) s.2 ps = none ∧ s.2.short ∧ fin = none)))
def Gof (vis : Vm) : Gm := fun x => (vis x).getLast?
theorem Gof_put (vis : Vm) (x : Str) (j : Kd) : Gof (fun y => if y = x then vis x ++ [j] else vis y) = (Gof vis).put x j := by
  funext y
  show (if y = x then vis x ++ [j] else vis y).getLast? = if y = x then some j else (vis y).getLast?
  by_cases c : y = x
  · rw [if_pos c, if_pos c]; simp
  · rw [if_neg c, if_neg c]
theorem vis1_back (vis : Vm) (h : Bool) (x : Str) (p q : Ex) (j : Kd) : vis1 (fun y => if y = x then vis x ++ [j] else vis y) (.bnd h x p q) = vis := by
  funext y
  show (if y = x then (if x = x then vis x ++ [j] else vis x).dropLast else (if y = x then vis x ++ [j] else vis y)) = vis y
  by_cases c : y = x
  · rw [if_pos c, if_pos rfl, List.dropLast_concat, c]
  · rw [if_neg c, if_neg c]
def Then (S : Sg) (fin : Option (List Kd)) (rest : List Sp2) (stk : List Kd) (vis : Vm) : Option Kd → Prop
  | some k => Okr S fin rest (stk ++ [k]) vis
  | none => fin = none
/-- an expression is left that binds nothing -/
theorem okr_leave {S : Sg} {fin : Option (List Kd)} {rest : List Sp2} {vis : Vm} {st0 ps : List Kd} {e : Ex} (hb : e.binds = false) (hl : ps.length = e.parts.length) (hs : kof S vis e ps = none → e.short)
    (h : Then S fin rest st0 vis (kof S vis e ps)) : Okr S fin (le e :: rest) (st0 ++ ps) vis := by
  refine .inr ⟨rfl, st0, ps, rfl, hl, fun h2 x p q z => ?_, ?_⟩
  · have z' : e = .bnd h2 x p q := z
    rw [z'] at hb; cases hb
  · show (∃ k, kof S (vis1 vis e) e ps = some k ∧ Okr S fin rest (st0 ++ [k]) (vis1 vis e)) ∨ (kof S (vis1 vis e) e ps = none ∧ e.short ∧ fin = none)
    rw [vis1_not hb]
    cases hk : kof S vis e ps with
    | some k => rw [hk] at h; exact .inl ⟨k, rfl, h⟩
    | none => rw [hk] at h; exact .inr ⟨rfl, hs hk, h⟩
theorem nw_first_second : (("first" : Str) = "second") = False := eq_false (by decide +kernel)
theorem nw_first_iota : (("first" : Str) = "iota") = False := eq_false (by decide +kernel)
theorem nw_first_len : (("first" : Str) = "len") = False := eq_false (by decide +kernel)
theorem nw_first_sum : (("first" : Str) = "sum") = False := eq_false (by decide +kernel)
theorem nw_first_flat : (("first" : Str) = "flat") = False := eq_false (by decide +kernel)
theorem nw_second_first : (("second" : Str) = "first") = False := eq_false (by decide +kernel)
theorem nw_second_iota : (("second" : Str) = "iota") = False := eq_false (by decide +kernel)
theorem nw_second_len : (("second" : Str) = "len") = False := eq_false (by decide +kernel)
theorem nw_second_sum : (("second" : Str) = "sum") = False := eq_false (by decide +kernel)
theorem nw_second_flat : (("second" : Str) = "flat") = False := eq_false (by decide +kernel)
theorem nw_iota_first : (("iota" : Str) = "first") = False := eq_false (by decide +kernel)
theorem nw_iota_second : (("iota" : Str) = "second") = False := eq_false (by decide +kernel)
theorem nw_iota_len : (("iota" : Str) = "len") = False := eq_false (by decide +kernel)
theorem nw_iota_sum : (("iota" : Str) = "sum") = False := eq_false (by decide +kernel)
theorem nw_iota_flat : (("iota" : Str) = "flat") = False := eq_false (by decide +kernel)
theorem nw_len_first : (("len" : Str) = "first") = False := eq_false (by decide +kernel)
theorem nw_len_second : (("len" : Str) = "second") = False := eq_false (by decide +kernel)
theorem nw_len_iota : (("len" : Str) = "iota") = False := eq_false (by decide +kernel)
theorem nw_len_sum : (("len" : Str) = "sum") = False := eq_false (by decide +kernel)
theorem nw_len_flat : (("len" : Str) = "flat") = False := eq_false (by decide +kernel)
theorem nw_sum_first : (("sum" : Str) = "first") = False := eq_false (by decide +kernel)
theorem nw_sum_second : (("sum" : Str) = "second") = False := eq_false (by decide +kernel)
theorem nw_sum_iota : (("sum" : Str) = "iota") = False := eq_false (by decide +kernel)
theorem nw_sum_len : (("sum" : Str) = "len") = False := eq_false (by decide +kernel)
theorem nw_sum_flat : (("sum" : Str) = "flat") = False := eq_false (by decide +kernel)
theorem nw_flat_first : (("flat" : Str) = "first") = False := eq_false (by decide +kernel)
theorem nw_flat_second : (("flat" : Str) = "second") = False := eq_false (by decide +kernel)
theorem nw_flat_iota : (("flat" : Str) = "iota") = False := eq_false (by decide +kernel)
theorem nw_flat_len : (("flat" : Str) = "len") = False := eq_false (by decide +kernel)
theorem nw_flat_sum : (("flat" : Str) = "sum") = False := eq_false (by decide +kernel)
theorem nw_pair_at : (("pair" : Str) = "at") = False := eq_false (by decide +kernel)
theorem nw_pair_keep : (("pair" : Str) = "keep") = False := eq_false (by decide +kernel)
theorem nw_pair_append : (("pair" : Str) = "append") = False := eq_false (by decide +kernel)
theorem nw_at_pair : (("at" : Str) = "pair") = False := eq_false (by decide +kernel)
theorem nw_at_keep : (("at" : Str) = "keep") = False := eq_false (by decide +kernel)
theorem nw_at_append : (("at" : Str) = "append") = False := eq_false (by decide +kernel)
theorem nw_keep_pair : (("keep" : Str) = "pair") = False := eq_false (by decide +kernel)
theorem nw_keep_at : (("keep" : Str) = "at") = False := eq_false (by decide +kernel)
theorem nw_keep_append : (("keep" : Str) = "append") = False := eq_false (by decide +kernel)
theorem nw_append_pair : (("append" : Str) = "pair") = False := eq_false (by decide +kernel)
theorem nw_append_at : (("append" : Str) = "at") = False := eq_false (by decide +kernel)
theorem nw_append_keep : (("append" : Str) = "keep") = False := eq_false (by decide +kernel)
theorem Rw_1 {w : Str} (h : w ∈ w1s) (k : Kd) : Rw w [k] = ty1 w k := by
  simp only [w1s, List.mem_cons, List.not_mem_nil, or_false] at h
  rcases h with rfl | rfl | rfl | rfl | rfl | rfl
  · rw [Rw_first]
    cases k <;> simp [R_first, ty1, nw_first_second, nw_first_iota, nw_first_len, nw_first_sum, nw_first_flat]
  · rw [Rw_second]
    cases k <;> simp [R_second, ty1, nw_second_first, nw_second_iota, nw_second_len, nw_second_sum, nw_second_flat]
  · rw [Rw_iota]
    cases k <;> simp [R_iota, ty1, nw_iota_first, nw_iota_second, nw_iota_len, nw_iota_sum, nw_iota_flat]
  · rw [Rw_len]
    cases k <;> simp [R_len, ty1, nw_len_first, nw_len_second, nw_len_iota, nw_len_sum, nw_len_flat]
  · rw [Rw_sum]
    cases k <;> simp [R_sum, ty1, nw_sum_first, nw_sum_second, nw_sum_iota, nw_sum_len, nw_sum_flat]
  · rw [Rw_flat]
    cases k with
    | seq j => cases j <;> simp only [R_flat, ty1, nw_flat_first, nw_flat_second, nw_flat_iota, nw_flat_len, nw_flat_sum, if_false, if_true]
    | num => simp only [R_flat, ty1, nw_flat_first, nw_flat_second, nw_flat_iota, nw_flat_len, nw_flat_sum, if_false, if_true]
    | pair _ _ => simp only [R_flat, ty1, nw_flat_first, nw_flat_second, nw_flat_iota, nw_flat_len, nw_flat_sum, if_false, if_true]
theorem Rw_2 {w : Str} (h : w ∈ w2s) (k l : Kd) : Rw w [k, l] = ty2 w k l := by
  simp only [w2s, List.mem_cons, List.not_mem_nil, or_false] at h
  rcases h with rfl | rfl | rfl | rfl
  · rw [Rw_pair]
    cases k <;> simp [R_pair, ty2, nw_pair_at, nw_pair_keep, nw_pair_append]
  · rw [Rw_at]
    cases k <;> simp [R_at, ty2, nw_at_pair, nw_at_keep, nw_at_append]
  · rw [Rw_keep]
    cases k <;> cases l <;> simp [R_keep, ty2, nw_keep_pair, nw_keep_at, nw_keep_append]
  · rw [Rw_append]
    cases k <;> simp [R_append, ty2, nw_append_pair, nw_append_at, nw_append_keep]
theorem okr_lin {S : Sg} {fin : Option (List Kd)} : ∀ (e : Ex) (rest : List Sp2) (stk : List Kd) (vis : Vm), e.wf → (ty S (Gof vis) e = none → e.allShort) → Then S fin rest stk vis (ty S (Gof vis) e) → Okr S fin (e.lin ++ rest) stk vis
  | .num n, rest, stk, vis, hw, hs, h => by
    have z := okr_leave (S := S) (fin := fin) (rest := rest) (vis := vis) (st0 := stk) (ps := []) (e := .num n) rfl rfl (fun z => by cases z) h
    rw [List.append_nil] at z
    exact z
  | .var x, rest, stk, vis, hw, hs, h => by
    have z := okr_leave (S := S) (fin := fin) (rest := rest) (vis := vis) (st0 := stk) (ps := []) (e := .var x) rfl rfl (fun z => hs z) h
    rw [List.append_nil] at z
    exact z
  | .call f a, rest, stk, vis, hw, hs, h => by
    show Okr S fin ((a.lin ++ [le (.call f a)]) ++ rest) stk vis
    rw [List.append_assoc]
    cases ha : ty S (Gof vis) a with
    | none =>
      have hn : ty S (Gof vis) (.call f a) = none := by
        simp only [ty, ha]
        cases find S f with
        | none => rfl
        | some p => obtain ⟨g, r⟩ := p; rfl
      refine okr_lin a _ stk vis hw (fun _ => (hs hn).2) ?_
      rw [hn] at h
      rw [ha]
      exact h
    | some k =>
      refine okr_lin a _ stk vis hw (fun z => by rw [ha] at z; cases z) ?_
      rw [ha]
      have hk : kof S vis (.call f a) [k] = ty S (Gof vis) (.call f a) := by
        simp only [kof, ty, ha]
        cases find S f with
        | none => rfl
        | some p => obtain ⟨g, r⟩ := p; simp
      refine okr_leave (ps := [k]) (e := .call f a) rfl rfl (fun z => (hs (by rw [← hk]; exact z)).1) ?_
      rw [hk]
      exact h
  | .f1 w a, rest, stk, vis, hw, hs, h => by
    show Okr S fin ((a.lin ++ [le (.f1 w a)]) ++ rest) stk vis
    rw [List.append_assoc]
    cases ha : ty S (Gof vis) a with
    | none =>
      have hn : ty S (Gof vis) (.f1 w a) = none := by simp only [ty, ha]
      refine okr_lin a _ stk vis hw.2 (fun _ => hs hn) ?_
      rw [hn] at h
      rw [ha]
      exact h
    | some k =>
      refine okr_lin a _ stk vis hw.2 (fun z => by rw [ha] at z; cases z) ?_
      rw [ha]
      have hk : kof S vis (.f1 w a) [k] = ty S (Gof vis) (.f1 w a) := by
        simp only [kof, ty, ha]
        exact Rw_1 hw.1 k
      refine okr_leave (ps := [k]) (e := .f1 w a) rfl rfl (fun z => trivial) ?_
      rw [hk]
      exact h
  | .f2 w a b, rest, stk, vis, hw, hs, h => by
    show Okr S fin ((a.lin ++ (b.lin ++ [le (.f2 w a b)])) ++ rest) stk vis
    rw [List.append_assoc, List.append_assoc]
    cases ha : ty S (Gof vis) a with
    | none =>
      have hn : ty S (Gof vis) (.f2 w a b) = none := by simp only [ty, ha]
      refine okr_lin a _ stk vis hw.2.1 (fun _ => (hs hn).1) ?_
      rw [hn] at h
      rw [ha]
      exact h
    | some k =>
      refine okr_lin a _ stk vis hw.2.1 (fun z => by rw [ha] at z; cases z) ?_
      rw [ha]
      cases hb : ty S (Gof vis) b with
      | none =>
        have hn : ty S (Gof vis) (.f2 w a b) = none := by simp only [ty, ha, hb]
        refine okr_lin b _ (stk ++ [k]) vis hw.2.2 (fun _ => (hs hn).2) ?_
        rw [hn] at h
        rw [hb]
        exact h
      | some l =>
        refine okr_lin b _ (stk ++ [k]) vis hw.2.2 (fun z => by rw [hb] at z; cases z) ?_
        rw [hb]
        have hk : kof S vis (.f2 w a b) [k, l] = ty S (Gof vis) (.f2 w a b) := by
          simp only [kof, ty, ha, hb]
          exact Rw_2 hw.1 k l
        have z := okr_leave (S := S) (fin := fin) (rest := rest) (vis := vis) (st0 := stk) (ps := [k, l]) (e := .f2 w a b) rfl rfl (fun z => trivial) (by rw [hk]; exact h)
        show Okr S fin (le (.f2 w a b) :: rest) ((stk ++ [k]) ++ [l]) vis
        rw [List.append_assoc]
        exact z
  | .op s a b, rest, stk, vis, hw, hs, h => by
    show Okr S fin ((a.lin ++ (b.lin ++ [le (.op s a b)])) ++ rest) stk vis
    rw [List.append_assoc, List.append_assoc]
    cases ha : ty S (Gof vis) a with
    | none =>
      have hn : ty S (Gof vis) (.op s a b) = none := by simp [ty, ha]
      refine okr_lin a _ stk vis hw.1 (fun _ => (hs hn).1) ?_
      rw [hn] at h
      rw [ha]
      exact h
    | some k =>
      refine okr_lin a _ stk vis hw.1 (fun z => by rw [ha] at z; cases z) ?_
      rw [ha]
      cases hb : ty S (Gof vis) b with
      | none =>
        have hn : ty S (Gof vis) (.op s a b) = none := by simp [ty, hb]
        refine okr_lin b _ (stk ++ [k]) vis hw.2 (fun _ => (hs hn).2) ?_
        rw [hn] at h
        rw [hb]
        exact h
      | some l =>
        refine okr_lin b _ (stk ++ [k]) vis hw.2 (fun z => by rw [hb] at z; cases z) ?_
        rw [hb]
        have hk : kof S vis (.op s a b) [k, l] = ty S (Gof vis) (.op s a b) := by
          simp [kof, ty, ha, hb]
        have z := okr_leave (S := S) (fin := fin) (rest := rest) (vis := vis) (st0 := stk) (ps := [k, l]) (e := .op s a b) rfl rfl (fun z => trivial) (by rw [hk]; exact h)
        show Okr S fin (le (.op s a b) :: rest) ((stk ++ [k]) ++ [l]) vis
        rw [List.append_assoc]
        exact z
  | .ite c a b, rest, stk, vis, hw, hs, h => by
    show Okr S fin ((c.lin ++ (a.lin ++ (b.lin ++ [le (.ite c a b)]))) ++ rest) stk vis
    rw [List.append_assoc, List.append_assoc, List.append_assoc]
    cases hc : ty S (Gof vis) c with
    | none =>
      have hn : ty S (Gof vis) (.ite c a b) = none := by simp [ty, hc]
      refine okr_lin c _ stk vis hw.1 (fun _ => (hs hn).1) ?_
      rw [hn] at h
      rw [hc]
      exact h
    | some j =>
      refine okr_lin c _ stk vis hw.1 (fun z => by rw [hc] at z; cases z) ?_
      rw [hc]
      cases ha : ty S (Gof vis) a with
      | none =>
        have hn : ty S (Gof vis) (.ite c a b) = none := by simp [ty, hc, ha]
        refine okr_lin a _ (stk ++ [j]) vis hw.2.1 (fun _ => (hs hn).2.1) ?_
        rw [hn] at h
        rw [ha]
        exact h
      | some k =>
        refine okr_lin a _ (stk ++ [j]) vis hw.2.1 (fun z => by rw [ha] at z; cases z) ?_
        rw [ha]
        cases hb : ty S (Gof vis) b with
        | none =>
          have hn : ty S (Gof vis) (.ite c a b) = none := by simp [ty, hc, ha, hb]
          refine okr_lin b _ ((stk ++ [j]) ++ [k]) vis hw.2.2 (fun _ => (hs hn).2.2) ?_
          rw [hn] at h
          rw [hb]
          exact h
        | some l =>
          refine okr_lin b _ ((stk ++ [j]) ++ [k]) vis hw.2.2 (fun z => by rw [hb] at z; cases z) ?_
          rw [hb]
          have hk : kof S vis (.ite c a b) [j, k, l] = ty S (Gof vis) (.ite c a b) := by
            simp [kof, ty, hc, ha, hb, R_if]
          have z := okr_leave (S := S) (fin := fin) (rest := rest) (vis := vis) (st0 := stk) (ps := [j, k, l]) (e := .ite c a b) rfl rfl (fun z => trivial) (by rw [hk]; exact h)
          show Okr S fin (le (.ite c a b) :: rest) (((stk ++ [j]) ++ [k]) ++ [l]) vis
          rw [List.append_assoc, List.append_assoc]
          exact z
  | .bnd hh x a b, rest, stk, vis, hw, hs, h => by
    show Okr S fin ((a.lin ++ bi (.bnd hh x a b) :: (b.lin ++ [le (.bnd hh x a b)])) ++ rest) stk vis
    rw [List.append_assoc, List.cons_append, List.append_assoc]
    cases ha : ty S (Gof vis) a with
    | none =>
      have hn : ty S (Gof vis) (.bnd hh x a b) = none := by cases hh <;> simp [ty, ha]
      refine okr_lin a _ stk vis hw.1 (fun _ => (hs hn).1) ?_
      rw [hn] at h
      rw [ha]
      exact h
    | some k =>
      refine okr_lin a _ stk vis hw.1 (fun z => by rw [ha] at z; cases z) ?_
      rw [ha]
      show Okr S fin (bi (.bnd hh x a b) :: (b.lin ++ ([le (.bnd hh x a b)] ++ rest))) (stk ++ [k]) vis
      -- b, where x is of the kind j; f: from b's kind to the whole one's
      have go : ∀ (j : Kd) (f : Kd → Kd), ty S (Gof vis) (.bnd hh x a b) = (ty S ((Gof vis).put x j) b).map f → (∀ l, kof S vis (.bnd hh x a b) [k, l] = some (f l)) → Okr S fin (b.lin ++ ([le (.bnd hh x a b)] ++ rest)) (stk ++ [k]) (fun y => if y = x then vis x ++ [j] else vis y) := fun j f ht hk => by
        rw [← Gof_put] at ht
        cases hb : ty S (Gof fun y => if y = x then vis x ++ [j] else vis y) b with
        | none =>
          rw [hb] at ht
          refine okr_lin b _ _ _ hw.2 (fun _ => (hs ht).2) ?_
          rw [hb]
          rw [ht] at h
          exact h
        | some l =>
          rw [hb] at ht
          refine okr_lin b _ _ _ hw.2 (fun z => by rw [hb] at z; cases z) ?_
          rw [hb]
          rw [ht] at h
          refine .inr ⟨rfl, stk, [k, l], by simp, rfl, fun h2 x2 p2 q2 z => ?_, .inl ⟨f l, ?_, ?_⟩⟩
          · have z' : Ex.bnd hh x a b = .bnd h2 x2 p2 q2 := z
            cases z'
            show (if x = x then vis x ++ [j] else vis x) ≠ []
            rw [if_pos rfl]; simp
          · show kof S (vis1 _ (.bnd hh x a b)) (.bnd hh x a b) [k, l] = _
            rw [vis1_back]
            exact hk l
          · show Okr S fin rest (stk ++ [f l]) (vis1 _ (.bnd hh x a b))
            rw [vis1_back]
            exact h
      refine .inl ⟨rfl, hh, x, a, b, k, rfl, by simp, ?_⟩
      cases hh with
      | false => exact .inl ⟨k, by simp, go k id (by simp [ty, ha]) (fun l => rfl)⟩
      | true =>
        cases k with
        | seq j => exact .inl ⟨j, by simp, go j .seq (by simp [ty, ha]) (fun l => rfl)⟩
        | num =>
          have hn : ty S (Gof vis) (.bnd true x a b) = none := by simp [ty, ha]
          rw [hn] at h
          exact .inr ⟨⟨rfl, fun j z => by cases z⟩, h⟩
        | pair _ _ =>
          have hn : ty S (Gof vis) (.bnd true x a b) = none := by simp [ty, ha]
          rw [hn] at h
          exact .inr ⟨⟨rfl, fun j z => by cases z⟩, h⟩
end K2

namespace K2
open PySem PySem.Spec PyProof.Rows L2
/-- another base -/
theorem BSt.rebase {CT CB : Addr} {Hb H H1 Hc : Hp} {Pr Pc : Addr → Prop} {β : Bc} {S : Sg} {L stk : List Kd} {vis : Str → List Kd} {m : Nat} (h : BSt CT CB Hb Pr H β S L stk vis m) (s : Same H H1) (pb : ∀ b, Pc b → ∃ o, Hc b = some o) (keep : ∀ b o, Pc b → Hc b = some o → H1 b = some o)
    (np : ∀ b u, H b = some u → (∃ xs, u = .lst xs) ∨ (∃ xs, u = .dK xs) ∨ (∃ xs, u = .dT xs) → ¬ Pr b → ¬ Pc b) : BSt CT CB Hc Pc H1 β S L stk vis m := by
  obtain ⟨ob, tb, sg, dn, sk, ⟨vkv, vd, vdl, vso⟩, vs, ds, sv, pr, pb0, keep0, ln⟩ := id h
  obtain ⟨shs, hs0, _⟩ := id tb.sh
  obtain ⟨kvs, hn, _⟩ := id tb.nu
  obtain ⟨ob', tb', sg', dn', _⟩ := h.same s
  refine ⟨ob', tb', sg', dn', sk, ⟨vkv, s _ _ vd, vdl, ⟨vso.no, fun x v e => ?_, vso.inj⟩⟩, vs, ds, sv, ⟨np _ _ hs0 (.inl ⟨_, rfl⟩) pr.1, np _ _ hn (.inr (.inr ⟨_, rfl⟩)) pr.2.1, np _ _ vd (.inr (.inl ⟨_, rfl⟩)) pr.2.2.1, np _ _ dn (.inl ⟨_, rfl⟩) pr.2.2.2⟩, pb, keep, ln⟩
  obtain ⟨l, e1, e2, e3, e4, e5⟩ := vso.yes x v e
  exact ⟨l, e1, s _ _ e2, e3, e4, np _ _ e2 (.inl ⟨_, rfl⟩) e5⟩
theorem lin_op : ∀ {e : Ex}, e.allOp → ∀ s ∈ e.lin, s.2.opOk := fun {e} h s hs => by
  induction e with
  | num _ => rw [List.mem_singleton.mp hs]; trivial
  | var _ => rw [List.mem_singleton.mp hs]; trivial
  | bnd _ _ a b iha ihb =>
    simp only [Ex.lin, List.mem_append, List.mem_cons, List.not_mem_nil, or_false] at hs
    rcases hs with hs | rfl | hs | rfl
    · exact iha h.1 hs
    · trivial
    · exact ihb h.2 hs
    · trivial
  | op _ a b iha ihb =>
    simp only [Ex.lin, List.mem_append, List.mem_cons, List.not_mem_nil, or_false] at hs
    rcases hs with hs | hs | rfl
    · exact iha h.2.1 hs
    · exact ihb h.2.2 hs
    · exact h.1
  | f2 _ a b iha ihb =>
    simp only [Ex.lin, List.mem_append, List.mem_cons, List.not_mem_nil, or_false] at hs
    rcases hs with hs | hs | rfl
    · exact iha h.1 hs
    · exact ihb h.2 hs
    · trivial
  | call _ a iha =>
    simp only [Ex.lin, List.mem_append, List.mem_cons, List.not_mem_nil, or_false] at hs
    rcases hs with hs | rfl
    · exact iha h hs
    · trivial
  | f1 _ a iha =>
    simp only [Ex.lin, List.mem_append, List.mem_cons, List.not_mem_nil, or_false] at hs
    rcases hs with hs | rfl
    · exact iha h hs
    · trivial
  | ite c a b ihc iha ihb =>
    simp only [Ex.lin, List.mem_append, List.mem_cons, List.not_mem_nil, or_false] at hs
    rcases hs with hs | hs | hs | rfl
    · exact ihc h.1 hs
    · exact iha h.2.1 hs
    · exact ihb h.2.2 hs
    · trivial
section
variable {P : Program} {w : World} {K : PySem.W.Frag} {mg : Str → Option Value} {base : Heap} {a : TAd} {r : RAd} {b : BAd} {pa : PAd}
def spBody (CT CB D : Addr) : Sp := fun vs H Q E => ∃ (Hb : Hp) (Pr : Addr → Prop) (β : Bc) (S : Sg) (L : List Kd) (vis : Str → List Kd) (m : Nat) (v : V) (e : Ex), vs = [.ref β.bc, v] ∧ BSt CT CB Hb Pr H β S L [] vis m ∧ ExAt H e v ∧ e.wf ∧ e.allOp ∧ e.sz ≤ 50000 ∧ m + 15 * e.sz ≤ 900000 ∧ (ty S (Gof vis) e = none → Okr S none e.lin [] vis) ∧
  (∀ k, ty S (Gof vis) e = some k → ∀ (H' : Hp) (L' : List Kd) (vis' : Str → List Kd), More L L' → k ∈ L' → BSt CT CB Hb Pr H' β S L' [] vis' (m + 15 * e.sz + 1) → Q (.int (ix L' k)) H') ∧ (ty S (Gof vis) e = none → ∀ H', (∀ b o, Pr b → Hb b = some o → H' b = some o) → E (.ref D) none H')
theorem ok_body (T : BTxt w K mg a r b) (TP : PTxt K mg pa) : FnOk P w K mg base (L2.CX P w) 6 b.kind_of_body.1 b.kind_of_body.2 ["self", "body"] (spBody a.C b.CB a.KindError) := by
  refine T.kind_of_body.F.okX sc_BodyCheck_kind_of_body (fun vs H Q E h => ?_) (fun cdv A outer s H vs Q E hr h => ?_)
  · obtain ⟨_, _, _, _, _, _, _, _, _, rfl, _⟩ := h
    rfl
  obtain ⟨Hb, Pr, β, S, L, vis, m, v, e, rfl, B, he, hw, hop, hsz, hm, hsh, qq, ee⟩ := h
  have nd := sc_BodyCheck_kind_of_body.nd
  have G_steps := ok_steps (P := P) (w := w) (base := base) TP
  have G_bind := ok_bind (P := P) (base := base) T
  have G_leave := ok_leave (P := P) (base := base) T TP
  have mb := mw_sz e
  have ll := lin_len e
  refine ⟨_, (pss_cons (ps_for (L2.passes_of rfl) rfl (pi_list (pe_call G_steps (hr.mono (by omega)) rfl TP.steps.g TP.steps.F.kp TP.steps.b .nil pass0 (pa_cons (pv 1) pa_nil))) (pg_tup rfl (pgs_cons (pg_name (i := 2) nd rfl (Or.inl rfl)) (pgs_cons (pg_name (i := 3) nd rfl (Or.inl rfl)) pgs_nil))) (pss_one (ps_if (pt_cmpR op_eq (pv 2) pe_str (nomark _)) (pss_one (ps_expr (pe_meth (pv 0) T.cl T.bind.m G_bind (hr.mono (by omega)) T.bind.b .nil (passes_call (takes_of rfl rfl rfl rfl) (fun _ _ _ _ h => h)) (pa_cons (pv 3) pa_nil)))) (pss_one (ps_expr (pe_meth (pv 0) T.cl T.leave.m G_leave (hr.mono (by omega)) T.leave.b .nil (passes_call (takes_of rfl rfl rfl rfl) (fun _ _ _ _ h => h)) (pa_cons (pv 3) pa_nil)))))))
  (pss_one (ps_ret (pe_bm0 PySem.F.plainAttrs_list PySem.F.slot_list_pop PySem.F.type_list_pop mt_pop (pe_fld (pv 0) rfl))))), ?_⟩
  refine ⟨_, rfl, v, e, rfl, he, hw, by omega, fun H1 p us s1 hp0 hp hus => ?_⟩
  have ul := hus.len
  have lw := lin_wf hw
  have lo := lin_op hop
  have B0 := B.same s1
  obtain ⟨Pc, ePc⟩ : ∃ Pc : Addr → Prop, Pc = fun b => Pr b ∨ b = p ∨ ∃ xs, H1 b = some (.tup xs) := ⟨_, rfl⟩
  have B1 : BSt a.C b.CB H1 Pc H1 β S L [] vis m := B.rebase s1 (fun c hc => by
      rw [ePc] at hc
      rcases hc with hc | rfl | ⟨xs, hc⟩
      · obtain ⟨o, eo⟩ := B0.pb c hc
        exact ⟨o, B0.keep c o hc eo⟩
      · exact ⟨_, hp⟩
      · exact ⟨_, hc⟩) (fun _ _ _ eo => eo) (fun c u hu hk hn hc => by
      rw [ePc] at hc
      rcases hc with hc | rfl | ⟨xs, hc⟩
      · exact hn hc
      · rw [hp0] at hu; cases hu
      · rw [s1 _ _ hu] at hc
        cases hc
        rcases hk with ⟨_, z⟩ | ⟨_, z⟩ | ⟨_, z⟩ <;> cases z)
  have Pp : Pc p := by rw [ePc]; exact .inr (.inl rfl)
  have kt : ∀ {H' : Hp}, (∀ b o, Pc b → H1 b = some o → H' b = some o) → Kt H1 H' := fun kp b xs eo => kp b _ (by rw [ePc]; exact .inr (.inr ⟨xs, eo⟩)) eo
  have kpr : ∀ {H' : Hp}, (∀ b o, Pc b → H1 b = some o → H' b = some o) → ∀ b o, Pr b → Hb b = some o → H' b = some o := fun kp b o hb eo => kp b o (by rw [ePc]; exact .inl hb) (B0.keep b o hb eo)
  obtain ⟨fin, efin⟩ : ∃ fin, fin = (ty S (Gof vis) e).map fun k => [k] := ⟨_, rfl⟩
  have start : Okr S fin e.lin [] vis := by
    cases ht : ty S (Gof vis) e with
    | none =>
      rw [efin, ht]
      exact hsh ht
    | some k =>
      have z := okr_lin (S := S) (fin := fin) e [] [] vis hw (fun z => by rw [ht] at z; cases z) (by
        rw [efin, ht]
        rfl)
      rw [List.append_nil] at z
      exact z
  have nofin : fin = none → ∀ H', (∀ b o, Pc b → H1 b = some o → H' b = some o) → E (.ref a.KindError) none H' := fun z H' kp => by
    rw [efin] at z
    exact ee (by cases ht : ty S (Gof vis) e with
      | none => rfl
      | some k => rw [ht] at z; cases z) H' (kpr kp)
  refine ⟨p, rfl, ⟨_, SqL.of hp⟩, for_list (K := K) (a := p) (xs := us) (fun i σ H' => ∃ (L' stk : List Kd) (vis' : Str → List Kd) (x2 x3 : Option V), σ = [some (.ref β.bc), some v, x2, x3] ∧ BSt a.C b.CB H1 Pc H' β S L' stk vis' (m + 5 * i) ∧ More L L' ∧ Okr S fin (e.lin.drop i) stk vis') ⟨L, [], vis, none, none, rfl, B1, More.refl L, start⟩ (fun i σ H' _ h => ?_) ?_ ?_⟩
  · obtain ⟨_, _, _, _, _, _, Bi, _⟩ := h
    exact SqL.of (Bi.keep _ _ Pp hp)
  · rintro i y σ H' hi ⟨L', stk, vis', x2, x3, rfl, Bi, ml, hok⟩
    have i2 : i < us.length := (List.getElem?_eq_some_iff.mp hi).1
    obtain ⟨s0, hs0, a0, u, rfl, ha, hx⟩ := hus.get hi
    have ha := kt Bi.keep _ _ ha
    have hx := hx.kt (kt Bi.keep)
    have sm := List.mem_of_getElem? hs0
    rw [drop_cons hs0] at hok
    refine ⟨a0, _, rfl, .inl (.inl ha), rfl, _, _, rfl, _, _, rfl, rfl, ?_⟩
    refine ⟨_, rfl, rfl, _, rfl, ?_⟩
    obtain ⟨dx, hob⟩ := Bi.ob
    rcases hok with ⟨hb, h2, x, p2, q2, k, e0, hk, hrest⟩ | ⟨hl, st0, ps, est, hpn, hvx, hrest⟩
    · refine ifT (by rw [hb]; rfl) ?_
      rw [e0] at hx
      refine ⟨_, rfl, β.bc, dx, _, rfl, hob, bf_no _ _ _ _ (by decide +kernel), _, rfl, H1, Pc, β, S, L', stk, vis', m + 5 * i, u, h2, x, p2, q2, k, rfl, Bi, by omega, hx, hk, fun j hj H2 B2 => ?_, fun hn H2 kp => ?_⟩
      · rcases hrest with ⟨j0, hj0, hr⟩ | ⟨hn, _⟩
        · have ej : j = j0 := by
            cases h2 with
            | true => rw [if_pos rfl] at hj hj0; rw [hj] at hj0; cases hj0; rfl
            | false => rw [if_neg (by decide)] at hj hj0; rw [← hj, ← hj0]
          rw [ej] at B2
          exact ⟨L', stk, _, _, _, rfl, B2.more (by omega), ml, hr⟩
        · rw [if_pos hn.1] at hj
          exact absurd hj (hn.2 j)
      · rcases hrest with ⟨j0, hj0, hr⟩ | ⟨_, hf⟩
        · rw [if_pos hn.1] at hj0
          exact absurd hj0 (hn.2 j0)
        · exact nofin hf H2 kp
    · refine ifF (by rw [hl]; decide +kernel) ?_
      subst est
      refine ⟨_, rfl, β.bc, dx, _, rfl, hob, bf_no _ _ _ _ (by decide +kernel), _, rfl, H1, Pc, β, S, L', st0, ps, vis', m + 5 * i, u, s0.2, rfl, Bi, by omega, hx, lw s0 sm, lo s0 sm, hpn, hvx, fun k hk H2 L2 ml2 B2 => ?_, fun hk => ?_⟩
      · rcases hrest with ⟨k0, hk0, hr⟩ | ⟨hn, _⟩
        · rw [hk] at hk0
          cases hk0
          exact ⟨L2, st0 ++ [k], _, _, _, rfl, B2.more (by omega), ml.trans ml2, hr⟩
        · rw [hn] at hk; cases hk
      · rcases hrest with ⟨k0, hk0, _⟩ | ⟨_, hshort, hf⟩
        · rw [hk] at hk0; cases hk0
        · exact ⟨hshort, nofin hf⟩
  · rintro σ H' ⟨L', stk, vis', x2, x3, rfl, Bi, ml, hok⟩
    rw [ul, List.drop_length] at hok
    have hok' : fin = some stk := hok
    rw [efin] at hok'
    cases ht : ty S (Gof vis) e with
    | none => rw [ht] at hok'; cases hok'
    | some k =>
      rw [ht] at hok'
      have est : stk = [k] := (Option.some.inj hok').symm
      subst est
      obtain ⟨dx, hob⟩ := Bi.ob
      have km : k ∈ L' := Bi.sk k (List.mem_singleton.mpr rfl)
      refine ⟨_, rfl, β.bc, b.CB, dx, _, _, rfl, hob, T.cl, T.n_done, bf_d _ _ _ _, .inl ⟨rfl, _, SqL.of Bi.dn⟩, β.dn, _, _, rfl, rfl, Bi.dn, rfl, ?_⟩
      have B2 := (Bi.stack (st := []) (fun _ h => (nomatch h)) (Nat.zero_le _)).more (n := m + 15 * e.sz + 1) (by omega)
      refine qq k ht _ L' vis' ml km ?_
      exact B2.rebase (Same.refl _) B.pb (kpr B2.keep) (fun c u hu hk hn hc => hn (by rw [ePc]; exact .inl hc))
end
end K2

namespace K2
open PySem PySem.Spec PyProof.Rows L2
section
variable {P : Program} {w : World} {K : PySem.W.Frag} {mg : Str → Option Value} {base : Heap} {a : TAd} {r : RAd} {b : BAd} {pa : PAd}
def spBInit (CT CB : Addr) : Sp := fun vs H Q _ => ∃ (Hb : Hp) (Pr : Addr → Prop) (bc dx sg : Addr) (t : Tb) (S : Sg) (L : List Kd) (x : Str) (g : Kd), vs = [.ref bc, .ref t.tb, .ref sg, .str x, .int (ix L g)] ∧ H bc = some (.ins CB dx []) ∧ TbAt CT H t L ∧ g ∈ L ∧
  (∃ kvs, H sg = some (.dK kvs) ∧ SgOk H L S kvs) ∧ bc ≠ t.tb ∧ ¬ Pr bc ∧ ¬ Pr t.sl ∧ ¬ Pr t.nm ∧ (∀ b, Pr b → ∃ o, Hb b = some o) ∧ (∀ b o, Pr b → Hb b = some o → H b = some o) ∧
  ∀ (H' : Hp) (vd dn : Addr), BSt CT CB Hb Pr H' ⟨bc, t, sg, vd, dn⟩ S L [] (fun y => if y = x then [g] else []) (L.length + 1) → Q .non H'
theorem ok_binit (T : BTxt w K mg a r b) : FnOk P w K mg base CX0 1 b.init.1 b.init.2 ["self", "table", "signatures", "param", "given"] (spBInit a.C b.CB) := by
  refine T.iF.ok sc_BodyCheck___init__ (fun vs H Q E h => ?_) (fun cdv A outer s H vs Q E hr h => ?_)
  · obtain ⟨_, _, _, _, _, _, _, _, _, _, rfl, _⟩ := h
    rfl
  obtain ⟨Hb, Pr, bc, dx, sg, t, S, L, x, g, rfl, hob, hT, hg, ⟨kvs, hsg, so⟩, nbt, pbc, psl, pnm, pb, keep, q⟩ := h
  have nd := sc_BodyCheck___init__.nd
  refine ⟨_, (pss_cons (ps_fld (pv 0) (pv 1) rfl) (pss_cons (ps_fld (pv 0) (pv 2) rfl) (pss_cons (ps_fld (pv 0) (pe_disp (pps_cons (pv 3) (pe_lst (pa_cons (pv 4) pa_nil)) pps_nil) (by rfl) (by rfl) (fun z => by cases z) (by decide)) rfl) (pss_one (ps_fld (pv 0) (pe_lst pa_nil) rfl))))), ?_⟩
  obtain ⟨H1, e1⟩ : ∃ H1, H1 = upd H bc (.ins b.CB dx (putF "table" (.ref t.tb) [])) := ⟨_, rfl⟩
  have b1 : H1 bc = some (.ins b.CB dx (putF "table" (.ref t.tb) [])) := by rw [e1]; exact upd_same
  have k1 : ∀ c o, c ≠ bc → H c = some o → H1 c = some o := fun c o n e => by rw [e1, upd_ne n]; exact e
  refine ⟨_, rfl, _, rfl, bc, b.CB, dx, _, rfl, hob, T.cl, T.n_table, (by show 0 < 1000; decide), ?_⟩
  rw [← e1]
  obtain ⟨H2, e2⟩ : ∃ H2, H2 = upd H1 bc (.ins b.CB dx (putF "signatures" (.ref sg) (putF "table" (.ref t.tb) []))) := ⟨_, rfl⟩
  have b2 : H2 bc = some (.ins b.CB dx (putF "signatures" (.ref sg) (putF "table" (.ref t.tb) []))) := by rw [e2]; exact upd_same
  have k2 : ∀ c o, c ≠ bc → H c = some o → H2 c = some o := fun c o n e => by rw [e2, upd_ne n]; exact k1 c o n e
  refine ⟨_, rfl, _, rfl, bc, b.CB, dx, _, rfl, b1, T.cl, T.n_signatures, (by show 1 < 1000; decide), ?_⟩
  rw [← e2]
  intro vd hvd
  have n1 : bc ≠ vd := ne_of_none b2 hvd
  have s3 := same_new hvd (.dK [])
  refine ⟨_, rfl, _, rfl, (by show 1 ≤ sizeLine; decide), fun l hl => ?_⟩
  have s4 := same_new hl (.lst [V.int (ix L g)])
  refine ⟨s4 _ _ upd_same, [(.inr x, .ref l)], rfl, (by show 1 ≤ 15; decide), ?_⟩
  obtain ⟨H5, e5⟩ : ∃ H5, H5 = upd (upd (upd H2 vd (.dK [])) l (.lst [V.int (ix L g)])) vd (.dK (mergeK [] [(.inr x, .ref l)])) := ⟨_, rfl⟩
  have nlv : l ≠ vd := (ne_of_none (upd_same (a := vd)) hl).symm
  have nlb : l ≠ bc := (ne_of_none (s3 _ _ b2) hl).symm
  have vd5 : H5 vd = some (.dK [(.inr x, .ref l)]) := by rw [e5, upd_same]; rfl
  have l5 : H5 l = some (.lst [V.int (ix L g)]) := by rw [e5, upd_ne nlv, upd_same]
  have k5 : ∀ c o, H2 c = some o → H5 c = some o := fun c o e => by
    rw [e5, upd_ne (ne_of_none e hvd)]; exact s4 _ _ (s3 _ _ e)
  refine ⟨_, rfl, bc, b.CB, dx, _, rfl, by rw [← e5]; exact k5 _ _ b2, T.cl, T.n_visible, (by show 2 < 1000; decide), ?_⟩
  rw [← e5]
  obtain ⟨H6, e6⟩ : ∃ H6, H6 = upd H5 bc (.ins b.CB dx (putF "visible" (.ref vd) (putF "signatures" (.ref sg) (putF "table" (.ref t.tb) [])))) := ⟨_, rfl⟩
  have b6 : H6 bc = some (.ins b.CB dx (putF "visible" (.ref vd) (putF "signatures" (.ref sg) (putF "table" (.ref t.tb) [])))) := by rw [e6]; exact upd_same
  rw [← e6]
  refine ⟨(by show 0 ≤ sizeLine; decide), fun dn hdn => ?_⟩
  have s7 := same_new hdn (.lst [])
  refine ⟨_, rfl, bc, b.CB, dx, _, rfl, s7 _ _ b6, T.cl, T.n_done, (by show 3 < 1000; decide), ?_⟩
  have n7 : bc ≠ dn := ne_of_none b6 hdn
  have k6 : ∀ c o, c ≠ bc → H5 c = some o → H6 c = some o := fun c o n e => by rw [e6, upd_ne n]; exact e
  have k8 : ∀ c o, c ≠ bc → H6 c = some o → (upd (upd H6 dn (.lst [])) bc (.ins b.CB dx (putF "done" (.ref dn) (putF "visible" (.ref vd) (putF "signatures" (.ref sg) (putF "table" (.ref t.tb) [])))))) c = some o := fun c o n e => by
    rw [upd_ne n]; exact s7 _ _ e
  obtain ⟨H8, e8⟩ : ∃ H8, H8 = upd (upd H6 dn (.lst [])) bc (.ins b.CB dx (putF "done" (.ref dn) (putF "visible" (.ref vd) (putF "signatures" (.ref sg) (putF "table" (.ref t.tb) []))))) := ⟨_, rfl⟩
  have kk : ∀ c o, c ≠ bc → H c = some o → H8 c = some o := fun c o n e => by rw [e8]; exact k8 c o n (k6 c o n (k5 c o (k2 c o n e)))
  have kt : Kt H H8 := fun c xs e => kk c _ (fun z => by rw [z, hob] at e; cases e) e
  rw [← e8]
  have vd8 : H8 vd = some (.dK [(.inr x, .ref l)]) := by rw [e8]; exact k8 _ _ n1.symm (k6 _ _ n1.symm vd5)
  have l8 : H8 l = some (.lst [V.int (ix L g)]) := by rw [e8]; exact k8 _ _ nlb (k6 _ _ nlb l5)
  have dn8 : H8 dn = some (.lst []) := by rw [e8, upd_ne n7.symm]; exact upd_same
  obtain ⟨⟨dt, tob⟩, ⟨shs, q2, q3, q4⟩, ⟨tkv, q5, q6⟩, q7⟩ := id hT
  have hvd0 : H vd = none := by
    cases e : H vd with
    | none => rfl
    | some o => rw [k2 _ _ n1.symm e] at hvd; cases hvd
  have hl0 : H l = none := by
    cases e : H l with
    | none => rfl
    | some o => rw [s3 _ _ (k2 _ _ nlb e)] at hl; cases hl
  have hdn0 : H dn = none := by
    cases e : H dn with
    | none => rfl
    | some o => rw [k6 _ _ n7.symm (k5 _ _ (k2 _ _ n7.symm e))] at hdn; cases hdn
  have np : ∀ c, H c = none → ¬ Pr c := fun c hc z => by
    obtain ⟨o, eo⟩ := pb c z
    rw [keep c o z eo] at hc; cases hc
  have nld : l ≠ dn := fun z => by rw [z] at l5; rw [k6 _ _ n7.symm l5] at hdn; cases hdn
  have nsb : t.sl ≠ bc := ne_of q2 hob (fun z => nomatch z)
  have nnb : t.nm ≠ bc := ne_of q5 hob (fun z => nomatch z)
  have T8 : TbAt a.C H8 t L := ⟨⟨dt, kk _ _ nbt.symm tob⟩, ⟨shs, kk _ _ nsb q2, q3, fun i k h => let ⟨v, a1, b1, c1, d1⟩ := q4 i k h; ⟨v, a1, b1, c1, kt _ _ d1⟩⟩, ⟨tkv, kk _ _ nnb q5, q6⟩, q7⟩
  refine q H8 vd dn ⟨⟨dx, by rw [e8]; exact upd_same⟩, T8, ⟨kvs, kk _ _ (ne_of hsg hob (fun z => nomatch z)) hsg, ⟨so.no, fun f v e => ?_⟩⟩, dn8, fun _ h => (nomatch h), ⟨_, vd8, by show 1 ≤ _; omega, ⟨fun y e => ?_, fun y v e => ?_, fun y z v ey ez => ?_⟩⟩, fun y k hk => ?_, ref_ne hdn0 q2, ref_ne2 hsg hvd0, ⟨psl, pnm, np _ hvd0, np _ hdn0⟩, pb, fun c o p e => kk c o (fun z => pbc (by rw [← z]; exact p)) (keep c o p e), by omega, Nat.zero_le _, fun y => ?_⟩
  · obtain ⟨c, g', r', f1, f2, f3⟩ := so.yes f v e
    exact ⟨c, g', r', f1, kt _ _ f2, f3⟩
  · show (if y = x then [g] else []) = []
    by_cases c : y = x
    · rw [c, valV_pos rfl] at e; cases e
    · exact if_neg c
  · by_cases c : y = x
    · rw [c, valV_pos rfl] at e
      cases e
      refine ⟨l, rfl, ?_, nld, (fun z => by rw [z, q2] at hl0; cases hl0), np _ hl0⟩
      show _ = some (HO.lst (ixs L (if y = x then [g] else [])))
      rw [if_pos c]; exact l8
    · rw [valV_neg (fun z => c (Sum.inr.inj z).symm)] at e; cases e
  · have hy : y = x := Decidable.byContradiction fun c => by rw [valV_neg (fun z => c (Sum.inr.inj z).symm)] at ey; cases ey
    have hz : z = x := Decidable.byContradiction fun c => by rw [valV_neg (fun z => c (Sum.inr.inj z).symm)] at ez; cases ez
    rw [hy, hz]
  · have hk' : k ∈ (if y = x then [g] else []) := hk
    by_cases c : y = x
    · rw [if_pos c] at hk'; rw [List.mem_singleton.mp hk']; exact hg
    · rw [if_neg c] at hk'; cases hk'
  · show (if y = x then [g] else []).length ≤ _
    by_cases c : y = x
    · rw [if_pos c]; show 1 ≤ _; omega
    · rw [if_neg c]; exact Nat.zero_le _
end
end K2

namespace K2
open PySem PySem.Spec PyProof.Rows L2
theorem find_snoc {S : Sg} {n : Str} {p : Kd × Kd} {x : Str} (h : find S x = none) : find (S ++ [(n, p)]) x = if n = x then some p else none := by
  unfold find at *
  rw [List.find?_append]
  cases e : S.find? (fun p => decide (p.1 = x)) with
  | some y => rw [e] at h; cases h
  | none =>
    show (Option.or none (List.find? (fun p => decide (p.1 = x)) [(n, p)])).map (·.2) = _
    by_cases c : n = x
    · simp [c]
    · simp [c]
theorem find_mem {fs : List Fn} {x : Str} {p : Kd × Kd} (h : find (sg fs) x = some p) : x ∈ fs.map (·.name) := by
  induction fs with
  | nil => cases h
  | cons f r ih =>
    by_cases c : f.name = x
    · rw [List.map_cons, c]; exact List.mem_cons_self
    · rw [List.map_cons]
      refine List.mem_cons_of_mem _ (ih ?_)
      unfold find sg at h ⊢
      simpa [c] using h
def Small (fs : List Fn) : Prop := fs.length ≤ 20 ∧ ∀ f ∈ fs, f.given.sz ≤ 1000 ∧ f.result.sz ≤ 1000 ∧ f.name.length ≤ 900
section
variable {P : Program} {w : World} {K : PySem.W.Frag} {mg : Str → Option Value} {base : Heap} {a : TAd} {r : RAd} {b : BAd} {pa : PAd}
def spSigs (CT D : Addr) : Sp := fun vs H Q E => ∃ (p : Addr) (t : Tb) (L : List Kd) (fs : List Fn) (us : List V), vs = [.ref p, .ref t.tb] ∧ H p = some (.lst us) ∧ FnsAt H fs us ∧ TbAt CT H t L ∧ L.length ≤ 10 ∧ p ≠ t.sl ∧ Small fs ∧
  ((fs.map (·.name)).Nodup → ∀ (H' : Hp) (L' : List Kd) (d : Addr) (kvs : List (L2.Key × V)), TFr t H H' → H d = none → H' d = some (.dK kvs) → SgOk H' L' (sg fs) kvs → TbAt CT H' t L' → More L L' → L'.length ≤ 50000 → (∀ f ∈ fs, f.given ∈ L' ∧ f.result ∈ L') → Q (.ref d) H') ∧
  (¬ (fs.map (·.name)).Nodup → ∀ H', TFr t H H' → E (.ref D) none H')
theorem ok_sigs (T : BTxt w K mg a r b) (TP : PTxt K mg pa) : FnOk P w K mg base (L2.CX P w) 3 pa.signatures_of.1 pa.signatures_of.2 ["program", "table"] (spSigs a.C a.KindError) := by
  refine TP.signatures_of.F.okX sc_signatures_of (fun vs H Q E h => ?_) (fun cdv A outer s H vs Q E hr h => ?_)
  · obtain ⟨_, _, _, _, _, rfl, _⟩ := h
    rfl
  obtain ⟨p, t, L, fs, us, rfl, hp, hfs, hT, hL, np, hsm, q, e⟩ := h
  have nd := sc_signatures_of.nd
  have hu := hu_of hr
  have G_number_of := ok_number_of (P := P) (w := w) (base := base) T.R.T
  have big : ∀ n, n ≤ 3000010 → n < sizeLine := fun n h => Nat.lt_of_le_of_lt h (by decide)
  have ul := hfs.len
  refine ⟨_, (pss_cons (ps_set (i := 2) nd rfl (Or.inl rfl) pe_dnewK)
  (pss_cons (ps_for (L2.passes_of rfl) rfl (pi_list (pv 0)) (pg_tup rfl (pgs_cons (pg_name (i := 3) nd rfl (Or.inl rfl)) (pgs_cons (pg_name (i := 4) nd rfl (Or.inl rfl)) (pgs_cons (pg_name (i := 3) nd rfl (Or.inl rfl)) (pgs_cons (pg_name (i := 5) nd rfl (Or.inl rfl)) (pgs_cons (pg_name (i := 6) nd rfl (Or.inl rfl)) (pgs_cons (pg_name (i := 3) nd rfl (Or.inl rfl)) pgs_nil))))))) (pss_cons (ps_if (pt_cmp (pc_din hu (pv 4) (pv 2))) (pss_one (ps_raise rfl (takes_of rfl rfl rfl rfl) (pmk_ownA PySem.F.excBase_ValueError T.R.T.xT T.R.T.gK T.R.T.kT (raises_own T.R.T.bT T.R.T.tT) rfl (pa_cons (pe_joined (PJ.cons pe_str (PJ.cons (pe_fmt (pv 4)) PJ.nil))) pa_nil)))) pss_nil)
  (pss_one (ps_dput hu (pv 2) (pv 4) (pe_tup (pa_cons (pe_meth (pv 1) T.R.T.cl T.R.T.number_of.m G_number_of (hr.mono (by omega)) T.R.T.number_of.b .nil pass0 (pa_cons (pv 5) pa_nil)) (pa_cons (pe_meth (pv 1) T.R.T.cl T.R.T.number_of.m G_number_of (hr.mono (by omega)) T.R.T.number_of.b .nil pass0 (pa_cons (pv 6) pa_nil)) pa_nil))) rfl))))
  (pss_one (ps_ret (pv 2))))), ?_⟩
  intro d hd
  have s1 := same_new hd (.dK [])
  have hT1 := hT.keep s1
  have d1 : (upd H d (.dK [])) d = some (.dK []) := upd_same
  have hp1 := s1 _ _ hp
  have hfs1 := hfs.kt (Kt.of s1)
  obtain ⟨shs, q2, _⟩ := id hT.sh
  obtain ⟨tkv, q5, _⟩ := id hT.nu
  obtain ⟨dt0, tob0⟩ := hT.ob
  have nds : d ≠ t.sl := ref_ne hd q2
  have ndn : d ≠ t.nm := ref_ne hd q5
  have ndp : d ≠ p := ref_ne hd hp
  have ndt : d ≠ t.tb := ref_ne hd tob0
  have npn : p ≠ t.nm := ne_of hp q5 (fun z => nomatch z)
  generalize upd H d (.dK []) = H1 at s1 hT1 d1 hp1 hfs1
  refine ⟨_, rfl, p, rfl, ⟨_, SqL.of hp1⟩, for_list (K := K) (a := p) (xs := us) (fun i σ H' => ∃ (L' : List Kd) (kvs : List (L2.Key × V)) (x3 x4 x5 x6 : Option V), σ = [some (.ref p), some (.ref t.tb), some (.ref d), x3, x4, x5, x6] ∧ H' d = some (.dK kvs) ∧ kvs.length ≤ i ∧ SgOk H' L' (sg (fs.take i)) kvs ∧ TbAt a.C H' t L' ∧ More L L' ∧ L'.length ≤ 10 + 2000 * i ∧ ((fs.take i).map (·.name)).Nodup ∧ (∀ f ∈ fs.take i, f.given ∈ L' ∧ f.result ∈ L') ∧ (∀ c o, c ≠ d → c ≠ t.sl → c ≠ t.nm → H1 c = some o → H' c = some o)) ⟨L, [], none, none, none, none, rfl, d1, Nat.le_refl _, ⟨fun _ _ => rfl, fun _ _ z => (nomatch z)⟩, hT1, More.refl L, by omega, List.nodup_nil, fun _ z => (by simp at z), fun _ _ _ _ _ e => e⟩ (fun i σ H' _ h => ?_) ?_ ?_⟩
  · obtain ⟨_, _, _, _, _, _, _, _, _, _, _, _, _, _, _, fr⟩ := h
    exact SqL.of (fr _ _ ndp.symm np npn hp1)
  · rintro i y σ H' hi ⟨L', kvs, x3, x4, x5, x6, rfl, hd', kl, so, T', ml, ll, ndt', hin, fr⟩
    have kt : Kt H1 H' := fun c xs e2 => fr c _ (fun z => by rw [z, d1] at e2; cases e2) (fun z => by rw [z] at e2; rw [s1 _ _ q2] at e2; cases e2) (fun z => by rw [z] at e2; rw [s1 _ _ q5] at e2; cases e2) e2
    obtain ⟨f, hf, hfa⟩ := hfs1.get hi
    obtain ⟨c, u1, u2, u3, rfl, hc, h1, h2, h3⟩ := hfa.kt kt
    have i2 : i < us.length := (List.getElem?_eq_some_iff.mp hi).1
    have fm := List.mem_of_getElem? hf
    obtain ⟨z1, z2, z3⟩ := hsm.2 f fm
    have fl := hsm.1
    have tk : fs.take (i + 1) = fs.take i ++ [f] := by rw [List.take_succ, hf]; rfl
    refine ⟨c, _, rfl, .inl (.inl hc), rfl, _, _, rfl, _, _, rfl, _, _, rfl, _, _, rfl, _, _, rfl, _, _, rfl, rfl, ?_⟩
    refine ⟨_, rfl, _, rfl, d, _, rfl, DGet.k (k := .inr f.name) hd', _, rfl, ?_⟩
    cases hv : valV kvs (.inr f.name) with
    | some v0 =>
      obtain ⟨_, g0, r0, _, _, hfd, _⟩ := so.yes _ _ hv
      refine ifT rfl ?_
      have nn : ¬ (fs.map (·.name)).Nodup := fun z => by
        have z2 : ((fs.take (i + 1)).map (·.name)).Nodup := by rw [List.map_take]; exact z.sublist (List.take_sublist _ _)
        rw [tk, List.map_append, List.nodup_append] at z2
        exact z2.2.2 _ (find_mem hfd) _ (List.mem_singleton.mpr rfl) rfl
      have fl2 : f.name.length ≤ 1000 := by omega
      have fl3 : f.name.length ≤ sizeLine := Nat.le_trans fl2 (by decide)
      exact ⟨_, rfl, (by decide +kernel), _, rfl, .inl ⟨_, rfl, fl3, _, rfl, len_app (by decide +kernel) fl2, (by show 1 ≤ sizeLine; decide), e nn H' fun c o n1 n2 eo => fr c o (ref_ne2 eo hd) n1 n2 (s1 _ _ eo)⟩⟩
    | none =>
      refine ifF rfl ?_
      obtain ⟨dt, tob⟩ := T'.ob
      refine ⟨_, rfl, t.tb, dt, _, rfl, tob, tf_no _ _ (by decide +kernel) (by decide +kernel), _, rfl, t, u1, f.given, L', rfl, T', h1, by omega, fun H2 L2 f2 T2 m2 l2 g2 => ?_⟩
      obtain ⟨dt2, tob2⟩ := T2.ob
      refine ⟨_, rfl, t.tb, dt2, _, rfl, tob2, tf_no _ _ (by decide +kernel) (by decide +kernel), _, rfl, t, u2, f.result, L2, rfl, T2, h2.kt (T'.kt f2), by omega, fun H3 L3 f3 T3 m3 l3 g3 => ?_⟩
      refine ⟨(by show 2 ≤ sizeLine; decide), fun tp htp => ?_⟩
      have s4 := same_new htp (.tup [.int (ix L2 f.given), .int (ix L3 f.result)])
      have T4 := T3.keep s4
      have hd4 := s4 _ _ (f3 _ _ nds ndn (f2 _ _ nds ndn hd'))
      have kt4 : Kt H' (upd H3 tp (.tup [.int (ix L2 f.given), .int (ix L3 f.result)])) := (T'.kt f2).trans ((T2.kt f3).trans (Kt.of s4))
      refine ⟨_, rfl, _, rfl, d, _, rfl, DPut.k (k := .inr f.name) hd4 (big _ (by omega)), ?_⟩
      have hnd : find (sg (fs.take i)) f.name = none := so.no _ hv
      have m13 := m2.trans m3
      have kt5 : ∀ kv, Kt (upd H3 tp (.tup [.int (ix L2 f.given), .int (ix L3 f.result)])) (upd (upd H3 tp (.tup [.int (ix L2 f.given), .int (ix L3 f.result)])) d (.dK kv)) := fun kv b xs eo => by
        rw [upd_ne (fun z => by rw [z, hd4] at eo; cases eo)]; exact eo
      have sgt : sg (fs.take (i + 1)) = sg (fs.take i) ++ [(f.name, f.given, f.result)] := by rw [tk]; unfold sg; rw [List.map_append]; rfl
      obtain ⟨shs4, q24, _⟩ := id T4.sh
      refine ⟨L3, _, _, _, _, _, rfl, upd_same, ?_, ?_, T4.put hd4 nds ndn ndt (fun _ z => nomatch z), ml.trans m13, by omega, ?_, fun f' hf' => ?_, fun c' o n1 n2 n3 eo => ?_⟩
      · have := length_putK kvs (.inr f.name) (.ref tp)
        omega
      · refine ⟨fun x ex => ?_, fun x v ex => ?_⟩
        · rw [valV_put] at ex
          by_cases cx : x = f.name
          · rw [if_pos (by rw [cx])] at ex; cases ex
          · rw [if_neg (fun z => cx (Sum.inr.inj z))] at ex
            rw [sgt, find_snoc (so.no x ex), if_neg (fun z => cx z.symm)]
        · rw [valV_put] at ex
          by_cases cx : x = f.name
          · rw [if_pos (by rw [cx])] at ex
            cases ex
            refine ⟨tp, f.given, f.result, rfl, ?_, by rw [sgt, cx, find_snoc hnd, if_pos rfl], m3.mem g2, g3⟩
            rw [m3.ix g2]
            exact kt5 _ _ _ upd_same
          · rw [if_neg (fun z => cx (Sum.inr.inj z))] at ex
            obtain ⟨b0, g0, r0, e1, e2, e3, e4, e5⟩ := so.yes x v ex
            exact ⟨b0, g0, r0, e1, by rw [m13.ix e4, m13.ix e5]; exact kt5 _ _ _ (kt4 _ _ e2), by rw [sgt]; exact find_app e3, m13.mem e4, m13.mem e5⟩
      · rw [tk, List.map_append, List.nodup_append]
        refine ⟨ndt', by simp, fun x hx y hy z => ?_⟩
        have z' : x = f.name := z.trans (List.mem_singleton.mp hy)
        rw [z'] at hx
        obtain ⟨f0, hf0, en⟩ := List.mem_map.mp hx
        have en' : f0.name = f.name := en
        rw [← en', find_sg ndt' hf0] at hnd
        cases hnd
      · rw [tk] at hf'
        rcases List.mem_append.mp hf' with hf' | hf'
        · obtain ⟨a1, a2⟩ := hin f' hf'
          exact ⟨m13.mem a1, m13.mem a2⟩
        · rw [List.mem_singleton.mp hf']; exact ⟨m3.mem g2, g3⟩
      · rw [upd_ne n1]
        exact s4 _ _ (f3 _ _ n2 n3 (f2 _ _ n2 n3 (fr c' o n1 n2 n3 eo)))
  · rintro σ H' ⟨L', kvs, x3, x4, x5, x6, rfl, hd', kl, so, T', ml, ll, ndt', hin, fr⟩
    rw [ul, List.take_length] at so ndt' hin
    have fl := hsm.1
    exact ⟨_, rfl, q ndt' H' L' d kvs (fun c o n1 n2 eo => fr c o (ref_ne2 eo hd) n1 n2 (s1 _ _ eo)) hd hd' so T' ml (by rw [ul] at ll; omega) hin⟩
end
end K2

namespace K2
open PySem PySem.Spec PyProof.Rows L2
def tot (fs : List Fn) : Nat := (fs.map fun f => f.body.sz).foldr (· + ·) 0
theorem tot_app (a b : List Fn) : tot (a ++ b) = tot a + tot b := by
  induction a with
  | nil => simp [tot]
  | cons x r ih => show x.body.sz + tot (r ++ b) = x.body.sz + tot r + tot b; rw [ih]; omega
theorem tot_take (fs : List Fn) (i : Nat) : tot (fs.take i) ≤ tot fs := by
  have := tot_app (fs.take i) (fs.drop i)
  rw [List.take_append_drop] at this
  omega
structure ChkIn (fs : List Fn) : Prop where
  sm : Small fs
  tt : tot fs ≤ 50000
  ok : ∀ f ∈ fs, f.body.wf ∧ f.body.allOp ∧ (ty (sg fs) (sing f.param f.given) f.body = none → ∀ vis : Vm, Gof vis = sing f.param f.given → Okr (sg fs) none f.body.lin [] vis)
def WT (fs : List Fn) : Prop := (fs.map (·.name)).Nodup ∧ ∀ f ∈ fs, WellF (sg fs) f
section
variable {P : Program} {w : World} {K : PySem.W.Frag} {mg : Str → Option Value} {base : Heap} {a : TAd} {r : RAd} {b : BAd} {pa : PAd}
def spCheck (D : Addr) : Sp := fun vs H Q E => ∃ (p : Addr) (fs : List Fn) (us : List V), vs = [.ref p] ∧ H p = some (.lst us) ∧ FnsAt H fs us ∧ ChkIn fs ∧
  (WT fs → ∀ H', Same H H' → Q .non H') ∧ (¬ WT fs → ∀ H', Same H H' → E (.ref D) none H')
theorem ok_check (T : BTxt w K mg a r b) (TP : PTxt K mg pa) : FnOk P w K mg base (L2.CX P w) 7 pa.check.1 pa.check.2 ["program"] (spCheck a.KindError) := by
  refine TP.check.F.okX sc_check (fun vs H Q E h => ?_) (fun cdv A outer s H vs Q E hr h => ?_)
  · obtain ⟨_, _, _, rfl, _⟩ := h
    rfl
  obtain ⟨p, fs, us, rfl, hp, hfs, hin, q, e⟩ := h
  have nd := sc_check.nd
  have hu := hu_of hr
  have G_tinit := ok_tinit (P := P) (w := w) (base := base) T.R.T
  have G_signatures_of := ok_sigs (P := P) (base := base) T TP
  have G_binit := ok_binit (P := P) (base := base) T
  have G_body := ok_body (P := P) (base := base) T TP
  have G_need := ok_need (P := P) (w := w) (base := base) T.R.T
  have ul := hfs.len
  refine ⟨_, (pss_cons (ps_set (i := 1) nd rfl (Or.inl rfl) (pe_make0 T.R.T.mkk G_tinit (hr.mono (by omega)) rfl T.R.T.gC T.R.T.ib .nil pass0))
  (pss_cons (ps_set (i := 2) nd rfl (Or.inl rfl) (pe_call G_signatures_of (hr.mono (by omega)) rfl TP.signatures_of.g TP.signatures_of.F.kp TP.signatures_of.b .nil (passes_call (takes_of rfl rfl rfl rfl) (fun _ _ _ _ h => h)) (pa_cons (pv 0) (pa_cons (pv 1) pa_nil))))
  (pss_one (ps_for (L2.passes_of rfl) rfl (pi_list (pv 0)) (pg_tup rfl (pgs_cons (pg_name (i := 3) nd rfl (Or.inl rfl)) (pgs_cons (pg_name (i := 4) nd rfl (Or.inl rfl)) (pgs_cons (pg_name (i := 5) nd rfl (Or.inl rfl)) (pgs_cons (pg_name (i := 3) nd rfl (Or.inl rfl)) (pgs_cons (pg_name (i := 3) nd rfl (Or.inl rfl)) (pgs_cons (pg_name (i := 6) nd rfl (Or.inl rfl)) pgs_nil))))))) (pss_cons (ps_asg (pe_dget hu (pv 2) (pv 4) (fun _ _ => rfl)) (pg_tup rfl (pgs_cons (pg_name (i := 7) nd rfl (Or.inl rfl)) (pgs_cons (pg_name (i := 8) nd rfl (Or.inl rfl)) pgs_nil))))
  (pss_cons (ps_set (i := 9) nd rfl (Or.inl rfl) (pe_meth (pe_make T.mkk G_binit (hr.mono (by omega)) rfl T.gB T.ib .nil pass0 (pa_cons (pv 1) (pa_cons (pv 2) (pa_cons (pv 5) (pa_cons (pv 7) pa_nil))))) T.cl T.kind_of_body.m G_body (hr.mono (by omega)) T.kind_of_body.b .nil (passes_call (takes_of rfl rfl rfl rfl) (fun _ _ _ _ h => h)) (pa_cons (pv 6) pa_nil)))
  (pss_one (ps_expr (pe_meth (pv 1) T.R.T.cl T.R.T.need.m G_need (hr.mono (by omega)) T.R.T.need.b .nil (passes_call (takes_of rfl rfl rfl rfl) (fun _ _ _ _ h => h)) (pa_cons (pv 9) (pa_cons (pv 8) pa_nil))))))))))), ?_⟩
  intro tb dx ntb ndx nex
  refine ⟨tb, dx, rfl, upd_same, fun H1 sl nm fr1 hsl hnm T1 => ⟨rfl, ?_⟩⟩
  have sm1 : Same H H1 := fun c o eo => fr1 c o (ref_ne2 eo ntb) (by rw [upd_ne (ref_ne2 eo ntb), upd_ne (ref_ne2 eo ndx)]; exact eo)
  have hsl0 : H sl = none := by
    cases e0 : H sl with
    | none => rfl
    | some o =>
      have h2 : (upd (upd H dx (.own tb)) tb (.ins a.C dx [])) sl = some o := by rw [upd_ne (ref_ne2 e0 ntb), upd_ne (ref_ne2 e0 ndx)]; exact e0
      rw [h2] at hsl; cases hsl
  have hnm0 : H nm = none := by
    cases e0 : H nm with
    | none => rfl
    | some o =>
      have h2 : (upd (upd H dx (.own tb)) tb (.ins a.C dx [])) nm = some o := by rw [upd_ne (ref_ne2 e0 ntb), upd_ne (ref_ne2 e0 ndx)]; exact e0
      rw [h2] at hnm; cases hnm
  have same_of : ∀ {H' : Hp}, TFr ⟨tb, sl, nm⟩ H1 H' → Same H H' := fun f c o eo => f c o (ref_ne2 eo hsl0) (ref_ne2 eo hnm0) (sm1 _ _ eo)
  refine ⟨_, rfl, _, rfl, p, ⟨tb, sl, nm⟩, [.num], fs, us, rfl, sm1 _ _ hp, hfs.kt (Kt.of sm1), T1, by show 1 ≤ 10; decide, ref_ne2 hp hsl0, hin.sm, fun hnd H2 L2 d kvs f2 hd0 hd2 so T2 m2 l2 in2 => ?_, fun hnn H2 f2 => e (fun z => hnn z.1) H2 (same_of f2)⟩
  have sm2 := same_of f2
  have fl := hin.sm.1
  refine ⟨_, rfl, p, rfl, ⟨_, SqL.of (sm2 _ _ hp)⟩, for_list (K := K) (a := p) (xs := us) (fun i σ H' => ∃ (L' : List Kd) (x3 x4 x5 x6 x7 x8 x9 : Option V), σ = [some (.ref p), some (.ref tb), some (.ref d), x3, x4, x5, x6, x7, x8, x9] ∧ Same H H' ∧ TbAt a.C H' ⟨tb, sl, nm⟩ L' ∧ (∃ kvs, H' d = some (.dK kvs) ∧ SgOk H' L' (sg fs) kvs) ∧ More L2 L' ∧ L'.length ≤ 50000 + 15 * tot (fs.take i) + 3 * i ∧ ∀ f ∈ fs.take i, WellF (sg fs) f) ⟨L2, none, none, none, none, none, none, none, rfl, sm2, T2, ⟨kvs, hd2, so⟩, More.refl L2, by omega, fun _ z => (by simp at z)⟩ (fun i σ H' _ h => ?_) ?_ ?_⟩
  · obtain ⟨_, _, _, _, _, _, _, _, _, sm, _⟩ := h
    exact SqL.of (sm _ _ hp)
  · rintro i y σ H' hi ⟨L', x3, x4, x5, x6, x7, x8, x9, rfl, sm', T', ⟨kvs', hd', so'⟩, ml, ll, hw⟩
    obtain ⟨f, hf, hfa⟩ := hfs.get hi
    obtain ⟨c, u1, u2, u3, rfl, hc0, h1, h2, h3⟩ := hfa
    have hc := sm' _ _ hc0
    have i2 : i < us.length := (List.getElem?_eq_some_iff.mp hi).1
    have fm := List.mem_of_getElem? hf
    have tk : fs.take (i + 1) = fs.take i ++ [f] := by rw [List.take_succ, hf]; rfl
    have tt : tot (fs.take (i + 1)) = tot (fs.take i) + f.body.sz := by rw [tk, tot_app]; rfl
    have tle := tot_take fs (i + 1)
    have hin1 := hin.tt
    have hfind : find (sg fs) f.name = some (f.given, f.result) := find_sg hnd fm
    obtain ⟨tp, htv, htp⟩ : ∃ tp, valV kvs' (.inr f.name) = some (.ref tp) ∧ H' tp = some (.tup [.int (ix L' f.given), .int (ix L' f.result)]) := by
      cases hv : valV kvs' (.inr f.name) with
      | none => rw [so'.no _ hv] at hfind; cases hfind
      | some v0 =>
        obtain ⟨b0, g0, r0, e1, e2, e3, _⟩ := so'.yes _ _ hv
        rw [hfind] at e3
        cases e3
        exact ⟨b0, by rw [e1], e2⟩
    refine ⟨c, _, rfl, .inl (.inl hc), rfl, _, _, rfl, _, _, rfl, _, _, rfl, _, _, rfl, _, _, rfl, _, _, rfl, rfl, ?_⟩
    refine ⟨_, rfl, _, rfl, d, _, rfl, by rw [← htv]; exact DGet.k (k := .inr f.name) hd', tp, _, rfl, .inl (.inl htp), rfl, _, _, rfl, _, _, rfl, rfl, ?_⟩
    obtain ⟨gm, rm⟩ := in2 f fm
    refine ⟨_, rfl, _, rfl, _, rfl, _, rfl, fun bc dx3 nbc ndx3 nbx => ?_⟩
    have smm : Same H' (upd (upd H' dx3 (.own bc)) bc (.ins b.CB dx3 [])) := fun c2 o eo => by rw [upd_ne (ref_ne2 eo nbc), upd_ne (ref_ne2 eo ndx3)]; exact eo
    obtain ⟨dt', tob'⟩ := T'.ob
    have Tm := T'.keep smm
    have som : SgOk (upd (upd H' dx3 (.own bc)) bc (.ins b.CB dx3 [])) L' (sg fs) kvs' := ⟨so'.no, fun x v ex => let ⟨b0, g0, r0, e1, e2, e3⟩ := so'.yes x v ex; ⟨b0, g0, r0, e1, smm _ _ e2, e3⟩⟩
    have npr : ∀ c2, H c2 = none → ¬ ∃ o, H c2 = some o := fun c2 h0 ⟨o, z⟩ => by rw [h0] at z; cases z
    have bc0 : H bc = none := by
      cases e0 : H bc with
      | none => rfl
      | some o => rw [sm' _ _ e0] at nbc; cases nbc
    refine ⟨H, fun c2 => ∃ o, H c2 = some o, bc, dx3, d, ⟨tb, sl, nm⟩, sg fs, L', f.param, f.given, rfl, upd_same, Tm, ml.mem gm, ⟨kvs', smm _ _ hd', som⟩, ref_ne nbc tob', npr _ bc0, npr _ hsl0, npr _ hnm0, fun _ z => z, fun c2 o _ eo => smm _ _ (sm' _ _ eo), fun H4 vd dn B4 => ⟨rfl, ?_⟩⟩
    have sm4 : Same H H4 := fun c2 o eo => B4.keep c2 o ⟨o, eo⟩ eo
    obtain ⟨dx4, hob4⟩ := B4.ob
    obtain ⟨w1, w2, w3⟩ := hin.ok f fm
    have eG : Gof (fun y => if y = f.param then [f.given] else []) = sing f.param f.given := by
      funext y
      show (if y = f.param then [f.given] else []).getLast? = if y = f.param then some f.given else none
      by_cases cy : y = f.param
      · rw [if_pos cy, if_pos cy]; rfl
      · rw [if_neg cy, if_neg cy]; rfl
    refine ⟨bc, dx4, _, rfl, hob4, bf_no _ _ _ _ (by decide +kernel), _, rfl, H, fun c2 => ∃ o, H c2 = some o, ⟨bc, ⟨tb, sl, nm⟩, d, vd, dn⟩, sg fs, L', _, _, u3, f.body, rfl, B4, h3.kt (Kt.of sm4), w1, w2, by omega, by omega, by rw [eG]; exact fun z => w3 z _ eG, fun k hk H5 L5 vis5 m5 km5 B5 => ?_, fun hk H5 kp => e (fun z => ?_) H5 fun c2 o eo => kp c2 o ⟨o, eo⟩ eo⟩
    · rw [eG] at hk
      have sm5 : Same H H5 := fun c2 o eo => B5.keep c2 o ⟨o, eo⟩ eo
      obtain ⟨dt5, tob5⟩ := B5.tb.ob
      have rm' := ml.mem rm
      refine ⟨_, rfl, tb, dt5, _, rfl, tob5, tf_no _ _ (by decide +kernel) (by decide +kernel), _, rfl, _, rfl, ⟨tb, sl, nm⟩, L5, k, f.result, by rw [m5.ix rm']; rfl, B5.tb, km5, m5.mem rm', fun ck => ?_, fun ck => e (fun z => ck ?_) H5 sm5⟩
      · refine ⟨L5, _, _, _, _, _, _, _, rfl, sm5, B5.tb, B5.sg, ml.trans m5, ?_, fun f' hf' => ?_⟩
        · have := B5.ln.1
          rw [tt]; omega
        · rw [tk] at hf'
          rcases List.mem_append.mp hf' with hf' | hf'
          · exact hw f' hf'
          · rw [List.mem_singleton.mp hf']
            unfold WellF
            rw [hk, ck]
      · have z2 := z.2 f fm
        unfold WellF at z2
        rw [hk] at z2
        exact Option.some.inj z2
    · rw [eG] at hk
      have z2 := z.2 f fm
      unfold WellF at z2
      rw [hk] at z2
      cases z2
  · rintro σ H' ⟨L', x3, x4, x5, x6, x7, x8, x9, rfl, sm', T', _, ml, ll, hw⟩
    rw [ul, List.take_length] at hw
    exact q ⟨hnd, hw⟩ H' sm'
end
end K2

namespace K2
open PySem PySem.Spec PyProof.Rows L2
structure LAd where
  law_told : Addr × FuncData
  FlatError : Addr
  TrapError : Addr
structure LTxt (w : World) (K : PySem.W.Frag) (mg : Str → Option Value) (a : TAd) (r : RAd) (b : BAd) (pa : PAd) (l : LAd) : Prop where
  B : BTxt w K mg a r b
  PT_ : PTxt K mg pa
  law_told : DefAt K mg "_law_told" s_law_told ["program"] l.law_told
  isinstance : mg "isinstance" = none
  int : mg "int" = none
  gF : mg "FlatError" = some (.ref l.FlatError)
  gT : mg "TrapError" = some (.ref l.TrapError)
  iK : PySem.W.isClsIn K a.KindError = true
  sK : PySem.W.subIn K (.ref a.KindError) (.ref a.KindError) = some true
  eK : ExcC K a.KindError
  yF : PySem.W.kitOne K (.ref a.KindError) (.ref l.FlatError) = some true
  yT : PySem.W.kitOne K (.ref a.KindError) (.ref l.TrapError) = some false
theorem exm_of {K : PySem.W.Frag} {S : Addr} (h1 : PySem.W.subIn K (.ref S) (.type "BaseException") = some true) (h2 : PySem.W.isClsIn K S = true) (h3 : PySem.W.typeIn K (.ref S) = some (.type "type")) (h4 : PySem.W.subIn K (.ref S) (.ref S) = some true) :
    PySem.W.exmOne K (.ref S) (.ref S) = some true := by
  have e1 : (PySem.W.subIn K (.ref S) (.type "BaseException") == some true) = true := by rw [h1] <;> rfl
  have e2 : ((PySem.W.clsIn K S).isSome && PySem.W.typeIn K (.ref S) == some (.type "type")) = true := by
    have h2' : (PySem.W.clsIn K S).isSome = true := h2
    rw [h2', h3] <;> rfl
  show (if (PySem.W.subIn K (.ref S) (.type "BaseException") == some true) = true then (if ((PySem.W.clsIn K S).isSome && PySem.W.typeIn K (.ref S) == some (.type "type")) = true then PySem.W.subIn K (.ref S) (.ref S) else none) else none) = some true
  rw [if_pos e1, if_pos e2]
  exact h4
def isE (K : PySem.W.Frag) (D b : Addr) (c : V) : TE := tCB (rIsE K D b) (tCons (tVar 1) (tCons (tC c) tNil))
def tInt1 (t : TE) : TE := tCB (fun xs H Q => (∃ i, xs = [.int i] ∧ Q (.int i) H) ∨ ∃ k, xs = [.bl k] ∧ Q (.int (if k then 1 else 0)) H) (tCons t tNil)
def ts_real (K : PySem.W.Frag) (a : TAd) (l : LAd) (b : Addr) : TS := tRet (tInt1 (tAndV (isE K a.KindError b (.ref l.FlatError)) (tNotV (isE K a.KindError b (.ref l.TrapError)))))
open Classical in
noncomputable def ts_told (K : PySem.W.Frag) (a : TAd) (l : LAd) (b : Addr) (cls : Value) (d : Option Addr) : TS := if cls = .ref a.KindError ∧ d = none then ts_real K a l b else tNever
section
variable {P : Program} {w : World} {K : PySem.W.Frag} {mg : Str → Option Value} {base : Heap} {a : TAd} {r : RAd} {b : BAd} {pa : PAd} {l : LAd}
def spTold : Sp := fun vs H Q _ => ∃ (p : Addr) (fs : List Fn) (us : List V), vs = [.ref p] ∧ H p = some (.lst us) ∧ FnsAt H fs us ∧ ChkIn fs ∧ (WT fs → ∀ H', Same H H' → Q (.int 0) H') ∧ (¬ WT fs → ∀ H', Same H H' → Q (.int 1) H')
theorem ok_law_told (T : LTxt w K mg a r b pa l) : FnOk P w K mg base CX0 8 l.law_told.1 l.law_told.2 ["program"] spTold := by
  refine T.law_told.F.ok sc_law_told (fun vs H Q E h => ?_) (fun cdv A outer s H vs Q E hr h => ?_)
  · obtain ⟨_, _, _, rfl, _⟩ := h
    rfl
  obtain ⟨p, fs, us, rfl, hp, hfs, hin, q0, q1⟩ := h
  have G_check := ok_check (P := P) (base := base) T.B T.PT_
  have nd := sc_law_told.nd
  refine ⟨_, pss_cons (ps_try_as (i := 1) (tb := fun W => tDrop (tCallS (spCheck a.KindError) (WE W) (tCons (tVar 0) tNil))) (ts := ts_told K a l) (Wout := fun _ _ _ _ => False) rfl rfl nd rfl rfl ⟨rfl, by decide, Or.inl T.B.R.T.gK⟩ takes0
    (fun W pn xe tk _ => pss_one (ps_expr (by exact (pe_callS G_check hr rfl T.PT_.check.g T.PT_.check.F.kp T.PT_.check.b (fun σ => passAt tk σ) (by exact (pa_cons (pv 0) pa_nil))))))
    (fun b oe cls d pn hz hf => by
      unfold ts_told
      by_cases hc : cls = .ref a.KindError ∧ d = none
      · rw [if_pos hc]
        obtain ⟨rfl, rfl⟩ := hc
        exact (pss_one (ps_ret (pe_callTy call_int1 (by rfl) T.int (by decide +kernel) (pa_cons (pe_and (pe_callB (call_isE T.eK hz hf) (by rfl) T.isinstance (by decide +kernel) (pa_cons (pv 1) (pa_cons (pe_glob (v := .ref l.FlatError) rfl T.gF rfl) pa_nil))) (pe_one (pe_not (pe_callB (call_isE T.eK hz hf) (by rfl) T.isinstance (by decide +kernel) (pa_cons (pv 1) (pa_cons (pe_glob (v := .ref l.TrapError) rfl T.gT rfl) pa_nil)))))) pa_nil))))
      · rw [if_neg hc]
        exact pss_never)) (pss_one (ps_ret pe_int)), ?_⟩
  refine ⟨_, rfl, p, fs, us, rfl, hp, hfs, hin, fun ht H' sm => ?_, fun ht H' sm => ?_⟩
  · exact q0 ht H' sm
  · refine ⟨true, exm_of T.B.R.T.bT T.iK T.B.R.T.tT T.sK, fun _ b hb => ?_, fun z => nomatch z⟩
    show ts_told K a l b (.ref a.KindError) none _ _ _
    unfold ts_told
    rw [if_pos ⟨rfl, rfl⟩]
    refine ⟨_, rfl, _, _, true, rfl, fun u r => r, T.yF, _, rfl, ?_⟩
    refine ifT rfl ?_
    refine ⟨_, rfl, _, _, false, rfl, fun u r => r, T.yT, _, rfl, ?_⟩
    refine .inr ⟨_, rfl, ?_⟩
    exact q1 ht H' sm
end
end K2

namespace K2
open PySem PySem.Spec PyProof.Rows L2
def exS : Ex := .f1 "iota" (.num 2)
def exP : Ex := .f2 "pair" (.num 1) exS
def badRows : List Ex := [(.var "nobody"), (.call "nobody" (.num 1)), (.op "**" (.num 1) (.num 2)), (.f1 "sum" exP), (.bnd false "q" (.var "q") (.num 1)), (.bnd true "q" (.bnd true "z" exS (.var "q")) (.num 1)), (.f1 "len" (.num 3)), (.f1 "first" exS), (.f1 "second" (.num 1)), (.f1 "iota" exS), (.f2 "at" exS exS), (.f2 "at" exP (.num 0)), (.f1 "sum" (.bnd true "q" exS exS)), (.f1 "flat" exS), (.f2 "keep" exS exP), (.f2 "keep" exS (.bnd true "q" exS exS)), (.f2 "append" exS exP), (.f2 "append" exS (.bnd true "q" exS exS)), (.ite exS (.num 1) (.num 2)), (.ite (.num 1) exS (.num 2)), (.op "+" exS (.num 1)), (.op "<" (.num 1) exP), (.bnd true "q" (.num 1) (.num 2)), (.call "sort" (.num 1)), (.call "down" exS), (.f1 "flat" (.bnd true "q" exS (.var "q")))]
def RowsAt (H : Hp) (xs : List V) : Prop := ∀ x ∈ xs, ∃ e ∈ badRows, ExAt H e x
theorem RowsAt.kt {H H' : Hp} {xs : List V} (h : RowsAt H xs) (s : Same H H') : RowsAt H' xs := fun x hx => let ⟨e, m, a⟩ := h x hx; ⟨e, m, a.kt (Kt.of s)⟩
theorem RowsAt.app {H : Hp} {xs ys : List V} (h : RowsAt H xs) (i : RowsAt H ys) : RowsAt H (xs ++ ys) := fun x hx => (List.mem_append.mp hx).elim (h x) (i x)
structure Sx (S : Sg) : Prop where
  no : find S "nobody" = none
  so : find S "sort" = some (.seq .num, .seq .num)
  dn : find S "down" = some (.num, .num)
theorem bad_ok : ∀ e ∈ badRows, e.wf ∧ e.allOp ∧ e.allShort ∧ e.sz ≤ 20 ∧ e.dep ≤ 10 := by
  intro e he
  simp only [badRows, List.mem_cons, List.not_mem_nil, or_false] at he
  rcases he with rfl | rfl | rfl | rfl | rfl | rfl | rfl | rfl | rfl | rfl | rfl | rfl | rfl | rfl | rfl | rfl | rfl | rfl | rfl | rfl | rfl | rfl | rfl | rfl | rfl | rfl <;> refine ⟨?_, ?_, ?_, by decide, by decide⟩ <;> simp [Ex.wf, Ex.allOp, Ex.allShort, exS, exP, w1s, w2s, sgns] <;> decide +kernel
theorem zq_ : (("q" : Str) = "z") = False := eq_false (by decide +kernel)
theorem ss_ : ((("**" : Str)) ∈ sgns) = False := eq_false (by decide +kernel)
theorem sp_ : ((("+" : Str)) ∈ sgns) = True := eq_true (by decide +kernel)
theorem sl_ : ((("<" : Str)) ∈ sgns) = True := eq_true (by decide +kernel)
theorem bad_ty {S : Sg} {G : Gm} (hS : Sx S) (h1 : G "nobody" = none) (h2 : G "q" = none) : ∀ e ∈ badRows, ty S G e = none := by
  intro e he
  have tS : ty1 "iota" .num = some (.seq .num) := ty1_iota
  simp only [badRows, List.mem_cons, List.not_mem_nil, or_false] at he
  rcases he with rfl | rfl | rfl | rfl | rfl | rfl | rfl | rfl | rfl | rfl | rfl | rfl | rfl | rfl | rfl | rfl | rfl | rfl | rfl | rfl | rfl | rfl | rfl | rfl | rfl | rfl <;>
    simp [ty, exS, exP, ty1_iota, ty2_pair, h1, h2, hS.no, hS.so, hS.dn, Gm.put, zq_, ss_, sp_, sl_] <;> first | rfl | decide +kernel
end K2

namespace K2
open PySem PySem.Spec PyProof.Rows L2
def wraps (b good : Ex) : List Ex := [.bnd false "q" b good, .f1 "second" (.f2 "pair" b good), .bnd false "r" exS (.bnd false "q" b good)]
section
variable {P : Program} {w : World} {K : PySem.W.Frag} {mg : Str → Option Value} {base : Heap} {ga : GAd} {lb : Addr × FuncData}
def spBad : Sp := fun vs H Q _ => ∃ (st c : Addr) (vg : V) (good : Ex), vs = [.ref st, vg] ∧ StAt H st c ∧ ExAt H good vg ∧ ∀ (H' : Hp) (b e : Ex) (v : V), Go st c H H' → b ∈ badRows → e ∈ wraps b good → ExAt H' e v → Q v H'
theorem ok_law_bad (T : GTxt K mg ga) (TB : DefAt K mg "_law_bad" s_law_bad ["state", "good"] lb) : FnOk P w K mg base CX0 3 lb.1 lb.2 ["state", "good"] spBad := by
  refine TB.F.ok sc_law_bad (fun vs H Q E h => ?_) (fun cdv A outer s H vs Q E hr h => ?_)
  · obtain ⟨_, _, _, _, rfl, _⟩ := h
    rfl
  obtain ⟨st, c, vg, good, rfl, hS, hg, q⟩ := h
  have nd := sc_law_bad.nd
  have G_law_pick := ok_law_pick (P := P) (w := w) (base := base) T
  refine ⟨_, (pss_cons (ps_set (i := 2) nd rfl (Or.inl rfl) (pe_tx (.t (.cons (.s "iota") (.cons (.t (.cons (.s "num") (.cons (.i 2) (.nil)))) (.nil)))) (by rfl) (pe_tup (pa_cons pe_str (pa_cons (pe_tup (pa_cons pe_str (pa_cons pe_int pa_nil))) pa_nil)))))
  (pss_cons (ps_set (i := 3) nd rfl (Or.inl rfl) (pe_tx (.t (.cons (.s "pair") (.cons (.t (.cons (.s "num") (.cons (.i 1) (.nil)))) (.cons (.v 2) (.nil))))) (by rfl) (pe_tup (pa_cons pe_str (pa_cons (pe_tup (pa_cons pe_str (pa_cons pe_int pa_nil))) (pa_cons (pv 2) pa_nil))))))
  (pss_cons (ps_set (i := 4) nd rfl (Or.inl rfl) (pe_lst (pa_cons (pe_tx (.t (.cons (.s "var") (.cons (.s "nobody") (.nil)))) (by rfl) (pe_tup (pa_cons pe_str (pa_cons pe_str pa_nil)))) (pa_cons (pe_tx (.t (.cons (.s "call") (.cons (.s "nobody") (.cons (.t (.cons (.s "num") (.cons (.i 1) (.nil)))) (.nil))))) (by rfl) (pe_tup (pa_cons pe_str (pa_cons pe_str (pa_cons (pe_tup (pa_cons pe_str (pa_cons pe_int pa_nil))) pa_nil))))) (pa_cons (pe_tx (.t (.cons (.s "op") (.cons (.s "**") (.cons (.t (.cons (.s "num") (.cons (.i 1) (.nil)))) (.cons (.t (.cons (.s "num") (.cons (.i 2) (.nil)))) (.nil)))))) (by rfl) (pe_tup (pa_cons pe_str (pa_cons pe_str (pa_cons (pe_tup (pa_cons pe_str (pa_cons pe_int pa_nil))) (pa_cons (pe_tup (pa_cons pe_str (pa_cons pe_int pa_nil))) pa_nil)))))) (pa_cons (pe_tx (.t (.cons (.s "sum") (.cons (.v 3) (.nil)))) (by rfl) (pe_tup (pa_cons pe_str (pa_cons (pv 3) pa_nil)))) pa_nil))))))
  (pss_cons (ps_set (i := 4) nd rfl (Or.inl rfl) (pe_op op_cat (pv 4) (pe_lst (pa_cons (pe_tx (.t (.cons (.s "let") (.cons (.s "q") (.cons (.t (.cons (.s "var") (.cons (.s "q") (.nil)))) (.cons (.t (.cons (.s "num") (.cons (.i 1) (.nil)))) (.nil)))))) (by rfl) (pe_tup (pa_cons pe_str (pa_cons pe_str (pa_cons (pe_tup (pa_cons pe_str (pa_cons pe_str pa_nil))) (pa_cons (pe_tup (pa_cons pe_str (pa_cons pe_int pa_nil))) pa_nil)))))) (pa_cons (pe_tx (.t (.cons (.s "each") (.cons (.s "q") (.cons (.t (.cons (.s "each") (.cons (.s "z") (.cons (.v 2) (.cons (.t (.cons (.s "var") (.cons (.s "q") (.nil)))) (.nil)))))) (.cons (.t (.cons (.s "num") (.cons (.i 1) (.nil)))) (.nil)))))) (by rfl) (pe_tup (pa_cons pe_str (pa_cons pe_str (pa_cons (pe_tup (pa_cons pe_str (pa_cons pe_str (pa_cons (pv 2) (pa_cons (pe_tup (pa_cons pe_str (pa_cons pe_str pa_nil))) pa_nil))))) (pa_cons (pe_tup (pa_cons pe_str (pa_cons pe_int pa_nil))) pa_nil)))))) pa_nil)))))
  (pss_cons (ps_set (i := 4) nd rfl (Or.inl rfl) (pe_op op_cat (pv 4) (pe_lst (pa_cons (pe_tx (.t (.cons (.s "len") (.cons (.t (.cons (.s "num") (.cons (.i 3) (.nil)))) (.nil)))) (by rfl) (pe_tup (pa_cons pe_str (pa_cons (pe_tup (pa_cons pe_str (pa_cons pe_int pa_nil))) pa_nil)))) (pa_cons (pe_tx (.t (.cons (.s "first") (.cons (.v 2) (.nil)))) (by rfl) (pe_tup (pa_cons pe_str (pa_cons (pv 2) pa_nil)))) (pa_cons (pe_tx (.t (.cons (.s "second") (.cons (.t (.cons (.s "num") (.cons (.i 1) (.nil)))) (.nil)))) (by rfl) (pe_tup (pa_cons pe_str (pa_cons (pe_tup (pa_cons pe_str (pa_cons pe_int pa_nil))) pa_nil)))) (pa_cons (pe_tx (.t (.cons (.s "iota") (.cons (.v 2) (.nil)))) (by rfl) (pe_tup (pa_cons pe_str (pa_cons (pv 2) pa_nil)))) (pa_cons (pe_tx (.t (.cons (.s "at") (.cons (.v 2) (.cons (.v 2) (.nil))))) (by rfl) (pe_tup (pa_cons pe_str (pa_cons (pv 2) (pa_cons (pv 2) pa_nil))))) (pa_cons (pe_tx (.t (.cons (.s "at") (.cons (.v 3) (.cons (.t (.cons (.s "num") (.cons (.i 0) (.nil)))) (.nil))))) (by rfl) (pe_tup (pa_cons pe_str (pa_cons (pv 3) (pa_cons (pe_tup (pa_cons pe_str (pa_cons pe_int pa_nil))) pa_nil))))) pa_nil)))))))))
  (pss_cons (ps_set (i := 4) nd rfl (Or.inl rfl) (pe_op op_cat (pv 4) (pe_lst (pa_cons (pe_tx (.t (.cons (.s "sum") (.cons (.t (.cons (.s "each") (.cons (.s "q") (.cons (.v 2) (.cons (.v 2) (.nil)))))) (.nil)))) (by rfl) (pe_tup (pa_cons pe_str (pa_cons (pe_tup (pa_cons pe_str (pa_cons pe_str (pa_cons (pv 2) (pa_cons (pv 2) pa_nil))))) pa_nil)))) (pa_cons (pe_tx (.t (.cons (.s "flat") (.cons (.v 2) (.nil)))) (by rfl) (pe_tup (pa_cons pe_str (pa_cons (pv 2) pa_nil)))) (pa_cons (pe_tx (.t (.cons (.s "keep") (.cons (.v 2) (.cons (.v 3) (.nil))))) (by rfl) (pe_tup (pa_cons pe_str (pa_cons (pv 2) (pa_cons (pv 3) pa_nil))))) (pa_cons (pe_tx (.t (.cons (.s "keep") (.cons (.v 2) (.cons (.t (.cons (.s "each") (.cons (.s "q") (.cons (.v 2) (.cons (.v 2) (.nil)))))) (.nil))))) (by rfl) (pe_tup (pa_cons pe_str (pa_cons (pv 2) (pa_cons (pe_tup (pa_cons pe_str (pa_cons pe_str (pa_cons (pv 2) (pa_cons (pv 2) pa_nil))))) pa_nil))))) (pa_cons (pe_tx (.t (.cons (.s "append") (.cons (.v 2) (.cons (.v 3) (.nil))))) (by rfl) (pe_tup (pa_cons pe_str (pa_cons (pv 2) (pa_cons (pv 3) pa_nil))))) pa_nil))))))))
  (pss_cons (ps_set (i := 4) nd rfl (Or.inl rfl) (pe_op op_cat (pv 4) (pe_lst (pa_cons (pe_tx (.t (.cons (.s "append") (.cons (.v 2) (.cons (.t (.cons (.s "each") (.cons (.s "q") (.cons (.v 2) (.cons (.v 2) (.nil)))))) (.nil))))) (by rfl) (pe_tup (pa_cons pe_str (pa_cons (pv 2) (pa_cons (pe_tup (pa_cons pe_str (pa_cons pe_str (pa_cons (pv 2) (pa_cons (pv 2) pa_nil))))) pa_nil))))) (pa_cons (pe_tx (.t (.cons (.s "if") (.cons (.v 2) (.cons (.t (.cons (.s "num") (.cons (.i 1) (.nil)))) (.cons (.t (.cons (.s "num") (.cons (.i 2) (.nil)))) (.nil)))))) (by rfl) (pe_tup (pa_cons pe_str (pa_cons (pv 2) (pa_cons (pe_tup (pa_cons pe_str (pa_cons pe_int pa_nil))) (pa_cons (pe_tup (pa_cons pe_str (pa_cons pe_int pa_nil))) pa_nil)))))) (pa_cons (pe_tx (.t (.cons (.s "if") (.cons (.t (.cons (.s "num") (.cons (.i 1) (.nil)))) (.cons (.v 2) (.cons (.t (.cons (.s "num") (.cons (.i 2) (.nil)))) (.nil)))))) (by rfl) (pe_tup (pa_cons pe_str (pa_cons (pe_tup (pa_cons pe_str (pa_cons pe_int pa_nil))) (pa_cons (pv 2) (pa_cons (pe_tup (pa_cons pe_str (pa_cons pe_int pa_nil))) pa_nil)))))) pa_nil))))))
  (pss_cons (ps_set (i := 4) nd rfl (Or.inl rfl) (pe_op op_cat (pv 4) (pe_lst (pa_cons (pe_tx (.t (.cons (.s "op") (.cons (.s "+") (.cons (.v 2) (.cons (.t (.cons (.s "num") (.cons (.i 1) (.nil)))) (.nil)))))) (by rfl) (pe_tup (pa_cons pe_str (pa_cons pe_str (pa_cons (pv 2) (pa_cons (pe_tup (pa_cons pe_str (pa_cons pe_int pa_nil))) pa_nil)))))) (pa_cons (pe_tx (.t (.cons (.s "op") (.cons (.s "<") (.cons (.t (.cons (.s "num") (.cons (.i 1) (.nil)))) (.cons (.v 3) (.nil)))))) (by rfl) (pe_tup (pa_cons pe_str (pa_cons pe_str (pa_cons (pe_tup (pa_cons pe_str (pa_cons pe_int pa_nil))) (pa_cons (pv 3) pa_nil)))))) (pa_cons (pe_tx (.t (.cons (.s "each") (.cons (.s "q") (.cons (.t (.cons (.s "num") (.cons (.i 1) (.nil)))) (.cons (.t (.cons (.s "num") (.cons (.i 2) (.nil)))) (.nil)))))) (by rfl) (pe_tup (pa_cons pe_str (pa_cons pe_str (pa_cons (pe_tup (pa_cons pe_str (pa_cons pe_int pa_nil))) (pa_cons (pe_tup (pa_cons pe_str (pa_cons pe_int pa_nil))) pa_nil)))))) pa_nil))))))
  (pss_cons (ps_set (i := 4) nd rfl (Or.inl rfl) (pe_op op_cat (pv 4) (pe_lst (pa_cons (pe_tx (.t (.cons (.s "call") (.cons (.s "sort") (.cons (.t (.cons (.s "num") (.cons (.i 1) (.nil)))) (.nil))))) (by rfl) (pe_tup (pa_cons pe_str (pa_cons pe_str (pa_cons (pe_tup (pa_cons pe_str (pa_cons pe_int pa_nil))) pa_nil))))) (pa_cons (pe_tx (.t (.cons (.s "call") (.cons (.s "down") (.cons (.v 2) (.nil))))) (by rfl) (pe_tup (pa_cons pe_str (pa_cons pe_str (pa_cons (pv 2) pa_nil))))) (pa_cons (pe_tx (.t (.cons (.s "flat") (.cons (.t (.cons (.s "each") (.cons (.s "q") (.cons (.v 2) (.cons (.t (.cons (.s "var") (.cons (.s "q") (.nil)))) (.nil)))))) (.nil)))) (by rfl) (pe_tup (pa_cons pe_str (pa_cons (pe_tup (pa_cons pe_str (pa_cons pe_str (pa_cons (pv 2) (pa_cons (pe_tup (pa_cons pe_str (pa_cons pe_str pa_nil))) pa_nil))))) pa_nil)))) pa_nil))))))
  (pss_cons (ps_set (i := 5) nd rfl (Or.inl rfl) (pe_call G_law_pick (hr.mono (by omega)) rfl T.law_pick.g T.law_pick.F.kp T.law_pick.b .nil pass0 (pa_cons (pv 0) (pa_cons (pv 4) pa_nil))))
  (pss_one (ps_ret (pe_call G_law_pick (hr.mono (by omega)) rfl T.law_pick.g T.law_pick.F.kp T.law_pick.b .nil pass0 (pa_cons (pv 0) (pa_cons (pe_lst (pa_cons (pe_tx (.t (.cons (.s "let") (.cons (.s "q") (.cons (.v 5) (.cons (.v 1) (.nil)))))) (by rfl) (pe_tup (pa_cons pe_str (pa_cons pe_str (pa_cons (pv 5) (pa_cons (pv 1) pa_nil)))))) (pa_cons (pe_tx (.t (.cons (.s "second") (.cons (.t (.cons (.s "pair") (.cons (.v 5) (.cons (.v 1) (.nil))))) (.nil)))) (by rfl) (pe_tup (pa_cons pe_str (pa_cons (pe_tup (pa_cons pe_str (pa_cons (pv 5) (pa_cons (pv 1) pa_nil)))) pa_nil)))) (pa_cons (pe_tx (.t (.cons (.s "let") (.cons (.s "r") (.cons (.v 2) (.cons (.t (.cons (.s "let") (.cons (.s "q") (.cons (.v 5) (.cons (.v 1) (.nil)))))) (.nil)))))) (by rfl) (pe_tup (pa_cons pe_str (pa_cons pe_str (pa_cons (pv 2) (pa_cons (pe_tup (pa_cons pe_str (pa_cons pe_str (pa_cons (pv 5) (pa_cons (pv 1) pa_nil))))) pa_nil)))))) pa_nil)))) pa_nil))))))))))))))), ?_⟩
  refine ⟨rfl, fun H1 vs_ s1 l1 => ?_⟩
  have aS : ExAt H1 exS vs_ := l1.ex [] trivial (by repeat' (first | rfl | constructor))
  refine ⟨rfl, fun H2 vp_ s2 l2 => ?_⟩
  have aP : ExAt H2 exP vp_ := l2.ex [none, none, some exS] ⟨aS.kt (Kt.of s2), trivial⟩ (by repeat' (first | rfl | constructor))
  have aS := aS.kt (Kt.of s2)
  have sm := s1.trans s2
  refine ⟨rfl, fun Hg0_0 w0_0 sg l0 => ?_⟩
  have sm := sm.trans sg
  have aS := aS.kt (Kt.of sg)
  have aP := aP.kt (Kt.of sg)
  have b0_0 : ExAt Hg0_0 (.var "nobody") w0_0 := l0.ex [none, none, some exS, some exP] ⟨aS, aP, trivial⟩ (by repeat' (first | rfl | constructor))
  refine ⟨rfl, fun Hg0_1 w0_1 sg l0 => ?_⟩
  have sm := sm.trans sg
  have aS := aS.kt (Kt.of sg)
  have aP := aP.kt (Kt.of sg)
  have b0_0 := b0_0.kt (Kt.of sg)
  have b0_1 : ExAt Hg0_1 (.call "nobody" (.num 1)) w0_1 := l0.ex [none, none, some exS, some exP] ⟨aS, aP, trivial⟩ (by repeat' (first | rfl | constructor))
  refine ⟨rfl, fun Hg0_2 w0_2 sg l0 => ?_⟩
  have sm := sm.trans sg
  have aS := aS.kt (Kt.of sg)
  have aP := aP.kt (Kt.of sg)
  have b0_0 := b0_0.kt (Kt.of sg)
  have b0_1 := b0_1.kt (Kt.of sg)
  have b0_2 : ExAt Hg0_2 (.op "**" (.num 1) (.num 2)) w0_2 := l0.ex [none, none, some exS, some exP] ⟨aS, aP, trivial⟩ (by repeat' (first | rfl | constructor))
  refine ⟨rfl, fun Hg0_3 w0_3 sg l0 => ?_⟩
  have sm := sm.trans sg
  have aS := aS.kt (Kt.of sg)
  have aP := aP.kt (Kt.of sg)
  have b0_0 := b0_0.kt (Kt.of sg)
  have b0_1 := b0_1.kt (Kt.of sg)
  have b0_2 := b0_2.kt (Kt.of sg)
  have b0_3 : ExAt Hg0_3 (.f1 "sum" exP) w0_3 := l0.ex [none, none, some exS, some exP] ⟨aS, aP, trivial⟩ (by repeat' (first | rfl | constructor))
  refine ⟨(by show 4 ≤ sizeLine; decide), fun l0 hl0 => ?_⟩
  have sg := same_new hl0 (.lst [w0_0, w0_1, w0_2, w0_3])
  have sm := sm.trans sg
  have aS := aS.kt (Kt.of sg)
  have aP := aP.kt (Kt.of sg)
  have new_ : RowsAt _ [w0_0, w0_1, w0_2, w0_3] := fun x hx => by
    simp only [List.mem_cons, List.not_mem_nil, or_false] at hx
    rcases hx with rfl | rfl | rfl | rfl
    · exact ⟨_, by simp [badRows], b0_0.kt (Kt.of sg)⟩
    · exact ⟨_, by simp [badRows], b0_1.kt (Kt.of sg)⟩
    · exact ⟨_, by simp [badRows], b0_2.kt (Kt.of sg)⟩
    · exact ⟨_, by simp [badRows], b0_3.kt (Kt.of sg)⟩
  have hr_ := upd_same (a := l0) (H := Hg0_3) (o := HO.lst [w0_0, w0_1, w0_2, w0_3])
  have rows_ := new_
  refine ⟨_, rfl, ?_⟩
  refine ⟨rfl, fun Hg1_0 w1_0 sg l0 => ?_⟩
  have sm := sm.trans sg
  have aS := aS.kt (Kt.of sg)
  have aP := aP.kt (Kt.of sg)
  have hr_ := sg _ _ hr_
  have rows_ := rows_.kt sg
  have b1_0 : ExAt Hg1_0 (.bnd false "q" (.var "q") (.num 1)) w1_0 := l0.ex [none, none, some exS, some exP] ⟨aS, aP, trivial⟩ (by repeat' (first | rfl | constructor))
  refine ⟨rfl, fun Hg1_1 w1_1 sg l0 => ?_⟩
  have sm := sm.trans sg
  have aS := aS.kt (Kt.of sg)
  have aP := aP.kt (Kt.of sg)
  have hr_ := sg _ _ hr_
  have rows_ := rows_.kt sg
  have b1_0 := b1_0.kt (Kt.of sg)
  have b1_1 : ExAt Hg1_1 (.bnd true "q" (.bnd true "z" exS (.var "q")) (.num 1)) w1_1 := l0.ex [none, none, some exS, some exP] ⟨aS, aP, trivial⟩ (by repeat' (first | rfl | constructor))
  refine ⟨(by show 2 ≤ sizeLine; decide), fun l1 hl1 => ?_⟩
  have sg := same_new hl1 (.lst [w1_0, w1_1])
  have sm := sm.trans sg
  have aS := aS.kt (Kt.of sg)
  have aP := aP.kt (Kt.of sg)
  have new_ : RowsAt _ [w1_0, w1_1] := fun x hx => by
    simp only [List.mem_cons, List.not_mem_nil, or_false] at hx
    rcases hx with rfl | rfl
    · exact ⟨_, by simp [badRows], b1_0.kt (Kt.of sg)⟩
    · exact ⟨_, by simp [badRows], b1_1.kt (Kt.of sg)⟩
  have hr_ := sg _ _ hr_
  have rows_ := rows_.kt sg
  refine ⟨_, l1, _, _, rfl, rfl, hr_, upd_same, Nat.le_of_lt (small1000 (by simp)), fun r1 hr1 => ?_⟩
  have ne_ := (hS.keep sm).ne2 hr1
  have sg := same_new hr1 (HO.lst ([w0_0, w0_1, w0_2, w0_3] ++ [w1_0, w1_1]))
  have sm := sm.trans sg
  have aS := aS.kt (Kt.of sg)
  have aP := aP.kt (Kt.of sg)
  have rows_ := (rows_.app new_).kt sg
  have hr_ := upd_same (a := r1) (H := upd Hg1_1 l1 (.lst [w1_0, w1_1])) (o := HO.lst ([w0_0, w0_1, w0_2, w0_3] ++ [w1_0, w1_1]))
  refine ⟨_, rfl, ?_⟩
  refine ⟨rfl, fun Hg2_0 w2_0 sg l0 => ?_⟩
  have sm := sm.trans sg
  have aS := aS.kt (Kt.of sg)
  have aP := aP.kt (Kt.of sg)
  have hr_ := sg _ _ hr_
  have rows_ := rows_.kt sg
  have b2_0 : ExAt Hg2_0 (.f1 "len" (.num 3)) w2_0 := l0.ex [none, none, some exS, some exP] ⟨aS, aP, trivial⟩ (by repeat' (first | rfl | constructor))
  refine ⟨rfl, fun Hg2_1 w2_1 sg l0 => ?_⟩
  have sm := sm.trans sg
  have aS := aS.kt (Kt.of sg)
  have aP := aP.kt (Kt.of sg)
  have hr_ := sg _ _ hr_
  have rows_ := rows_.kt sg
  have b2_0 := b2_0.kt (Kt.of sg)
  have b2_1 : ExAt Hg2_1 (.f1 "first" exS) w2_1 := l0.ex [none, none, some exS, some exP] ⟨aS, aP, trivial⟩ (by repeat' (first | rfl | constructor))
  refine ⟨rfl, fun Hg2_2 w2_2 sg l0 => ?_⟩
  have sm := sm.trans sg
  have aS := aS.kt (Kt.of sg)
  have aP := aP.kt (Kt.of sg)
  have hr_ := sg _ _ hr_
  have rows_ := rows_.kt sg
  have b2_0 := b2_0.kt (Kt.of sg)
  have b2_1 := b2_1.kt (Kt.of sg)
  have b2_2 : ExAt Hg2_2 (.f1 "second" (.num 1)) w2_2 := l0.ex [none, none, some exS, some exP] ⟨aS, aP, trivial⟩ (by repeat' (first | rfl | constructor))
  refine ⟨rfl, fun Hg2_3 w2_3 sg l0 => ?_⟩
  have sm := sm.trans sg
  have aS := aS.kt (Kt.of sg)
  have aP := aP.kt (Kt.of sg)
  have hr_ := sg _ _ hr_
  have rows_ := rows_.kt sg
  have b2_0 := b2_0.kt (Kt.of sg)
  have b2_1 := b2_1.kt (Kt.of sg)
  have b2_2 := b2_2.kt (Kt.of sg)
  have b2_3 : ExAt Hg2_3 (.f1 "iota" exS) w2_3 := l0.ex [none, none, some exS, some exP] ⟨aS, aP, trivial⟩ (by repeat' (first | rfl | constructor))
  refine ⟨rfl, fun Hg2_4 w2_4 sg l0 => ?_⟩
  have sm := sm.trans sg
  have aS := aS.kt (Kt.of sg)
  have aP := aP.kt (Kt.of sg)
  have hr_ := sg _ _ hr_
  have rows_ := rows_.kt sg
  have b2_0 := b2_0.kt (Kt.of sg)
  have b2_1 := b2_1.kt (Kt.of sg)
  have b2_2 := b2_2.kt (Kt.of sg)
  have b2_3 := b2_3.kt (Kt.of sg)
  have b2_4 : ExAt Hg2_4 (.f2 "at" exS exS) w2_4 := l0.ex [none, none, some exS, some exP] ⟨aS, aP, trivial⟩ (by repeat' (first | rfl | constructor))
  refine ⟨rfl, fun Hg2_5 w2_5 sg l0 => ?_⟩
  have sm := sm.trans sg
  have aS := aS.kt (Kt.of sg)
  have aP := aP.kt (Kt.of sg)
  have hr_ := sg _ _ hr_
  have rows_ := rows_.kt sg
  have b2_0 := b2_0.kt (Kt.of sg)
  have b2_1 := b2_1.kt (Kt.of sg)
  have b2_2 := b2_2.kt (Kt.of sg)
  have b2_3 := b2_3.kt (Kt.of sg)
  have b2_4 := b2_4.kt (Kt.of sg)
  have b2_5 : ExAt Hg2_5 (.f2 "at" exP (.num 0)) w2_5 := l0.ex [none, none, some exS, some exP] ⟨aS, aP, trivial⟩ (by repeat' (first | rfl | constructor))
  refine ⟨(by show 6 ≤ sizeLine; decide), fun l2 hl2 => ?_⟩
  have sg := same_new hl2 (.lst [w2_0, w2_1, w2_2, w2_3, w2_4, w2_5])
  have sm := sm.trans sg
  have aS := aS.kt (Kt.of sg)
  have aP := aP.kt (Kt.of sg)
  have new_ : RowsAt _ [w2_0, w2_1, w2_2, w2_3, w2_4, w2_5] := fun x hx => by
    simp only [List.mem_cons, List.not_mem_nil, or_false] at hx
    rcases hx with rfl | rfl | rfl | rfl | rfl | rfl
    · exact ⟨_, by simp [badRows], b2_0.kt (Kt.of sg)⟩
    · exact ⟨_, by simp [badRows], b2_1.kt (Kt.of sg)⟩
    · exact ⟨_, by simp [badRows], b2_2.kt (Kt.of sg)⟩
    · exact ⟨_, by simp [badRows], b2_3.kt (Kt.of sg)⟩
    · exact ⟨_, by simp [badRows], b2_4.kt (Kt.of sg)⟩
    · exact ⟨_, by simp [badRows], b2_5.kt (Kt.of sg)⟩
  have hr_ := sg _ _ hr_
  have rows_ := rows_.kt sg
  refine ⟨_, l2, _, _, rfl, rfl, hr_, upd_same, Nat.le_of_lt (small1000 (by simp)), fun r2 hr2 => ?_⟩
  have ne_ := (hS.keep sm).ne2 hr2
  have sg := same_new hr2 (HO.lst (([w0_0, w0_1, w0_2, w0_3] ++ [w1_0, w1_1]) ++ [w2_0, w2_1, w2_2, w2_3, w2_4, w2_5]))
  have sm := sm.trans sg
  have aS := aS.kt (Kt.of sg)
  have aP := aP.kt (Kt.of sg)
  have rows_ := (rows_.app new_).kt sg
  have hr_ := upd_same (a := r2) (H := upd Hg2_5 l2 (.lst [w2_0, w2_1, w2_2, w2_3, w2_4, w2_5])) (o := HO.lst (([w0_0, w0_1, w0_2, w0_3] ++ [w1_0, w1_1]) ++ [w2_0, w2_1, w2_2, w2_3, w2_4, w2_5]))
  refine ⟨_, rfl, ?_⟩
  refine ⟨rfl, fun Hg3_0 w3_0 sg l0 => ?_⟩
  have sm := sm.trans sg
  have aS := aS.kt (Kt.of sg)
  have aP := aP.kt (Kt.of sg)
  have hr_ := sg _ _ hr_
  have rows_ := rows_.kt sg
  have b3_0 : ExAt Hg3_0 (.f1 "sum" (.bnd true "q" exS exS)) w3_0 := l0.ex [none, none, some exS, some exP] ⟨aS, aP, trivial⟩ (by repeat' (first | rfl | constructor))
  refine ⟨rfl, fun Hg3_1 w3_1 sg l0 => ?_⟩
  have sm := sm.trans sg
  have aS := aS.kt (Kt.of sg)
  have aP := aP.kt (Kt.of sg)
  have hr_ := sg _ _ hr_
  have rows_ := rows_.kt sg
  have b3_0 := b3_0.kt (Kt.of sg)
  have b3_1 : ExAt Hg3_1 (.f1 "flat" exS) w3_1 := l0.ex [none, none, some exS, some exP] ⟨aS, aP, trivial⟩ (by repeat' (first | rfl | constructor))
  refine ⟨rfl, fun Hg3_2 w3_2 sg l0 => ?_⟩
  have sm := sm.trans sg
  have aS := aS.kt (Kt.of sg)
  have aP := aP.kt (Kt.of sg)
  have hr_ := sg _ _ hr_
  have rows_ := rows_.kt sg
  have b3_0 := b3_0.kt (Kt.of sg)
  have b3_1 := b3_1.kt (Kt.of sg)
  have b3_2 : ExAt Hg3_2 (.f2 "keep" exS exP) w3_2 := l0.ex [none, none, some exS, some exP] ⟨aS, aP, trivial⟩ (by repeat' (first | rfl | constructor))
  refine ⟨rfl, fun Hg3_3 w3_3 sg l0 => ?_⟩
  have sm := sm.trans sg
  have aS := aS.kt (Kt.of sg)
  have aP := aP.kt (Kt.of sg)
  have hr_ := sg _ _ hr_
  have rows_ := rows_.kt sg
  have b3_0 := b3_0.kt (Kt.of sg)
  have b3_1 := b3_1.kt (Kt.of sg)
  have b3_2 := b3_2.kt (Kt.of sg)
  have b3_3 : ExAt Hg3_3 (.f2 "keep" exS (.bnd true "q" exS exS)) w3_3 := l0.ex [none, none, some exS, some exP] ⟨aS, aP, trivial⟩ (by repeat' (first | rfl | constructor))
  refine ⟨rfl, fun Hg3_4 w3_4 sg l0 => ?_⟩
  have sm := sm.trans sg
  have aS := aS.kt (Kt.of sg)
  have aP := aP.kt (Kt.of sg)
  have hr_ := sg _ _ hr_
  have rows_ := rows_.kt sg
  have b3_0 := b3_0.kt (Kt.of sg)
  have b3_1 := b3_1.kt (Kt.of sg)
  have b3_2 := b3_2.kt (Kt.of sg)
  have b3_3 := b3_3.kt (Kt.of sg)
  have b3_4 : ExAt Hg3_4 (.f2 "append" exS exP) w3_4 := l0.ex [none, none, some exS, some exP] ⟨aS, aP, trivial⟩ (by repeat' (first | rfl | constructor))
  refine ⟨(by show 5 ≤ sizeLine; decide), fun l3 hl3 => ?_⟩
  have sg := same_new hl3 (.lst [w3_0, w3_1, w3_2, w3_3, w3_4])
  have sm := sm.trans sg
  have aS := aS.kt (Kt.of sg)
  have aP := aP.kt (Kt.of sg)
  have new_ : RowsAt _ [w3_0, w3_1, w3_2, w3_3, w3_4] := fun x hx => by
    simp only [List.mem_cons, List.not_mem_nil, or_false] at hx
    rcases hx with rfl | rfl | rfl | rfl | rfl
    · exact ⟨_, by simp [badRows], b3_0.kt (Kt.of sg)⟩
    · exact ⟨_, by simp [badRows], b3_1.kt (Kt.of sg)⟩
    · exact ⟨_, by simp [badRows], b3_2.kt (Kt.of sg)⟩
    · exact ⟨_, by simp [badRows], b3_3.kt (Kt.of sg)⟩
    · exact ⟨_, by simp [badRows], b3_4.kt (Kt.of sg)⟩
  have hr_ := sg _ _ hr_
  have rows_ := rows_.kt sg
  refine ⟨_, l3, _, _, rfl, rfl, hr_, upd_same, Nat.le_of_lt (small1000 (by simp)), fun r3 hr3 => ?_⟩
  have ne_ := (hS.keep sm).ne2 hr3
  have sg := same_new hr3 (HO.lst ((([w0_0, w0_1, w0_2, w0_3] ++ [w1_0, w1_1]) ++ [w2_0, w2_1, w2_2, w2_3, w2_4, w2_5]) ++ [w3_0, w3_1, w3_2, w3_3, w3_4]))
  have sm := sm.trans sg
  have aS := aS.kt (Kt.of sg)
  have aP := aP.kt (Kt.of sg)
  have rows_ := (rows_.app new_).kt sg
  have hr_ := upd_same (a := r3) (H := upd Hg3_4 l3 (.lst [w3_0, w3_1, w3_2, w3_3, w3_4])) (o := HO.lst ((([w0_0, w0_1, w0_2, w0_3] ++ [w1_0, w1_1]) ++ [w2_0, w2_1, w2_2, w2_3, w2_4, w2_5]) ++ [w3_0, w3_1, w3_2, w3_3, w3_4]))
  refine ⟨_, rfl, ?_⟩
  refine ⟨rfl, fun Hg4_0 w4_0 sg l0 => ?_⟩
  have sm := sm.trans sg
  have aS := aS.kt (Kt.of sg)
  have aP := aP.kt (Kt.of sg)
  have hr_ := sg _ _ hr_
  have rows_ := rows_.kt sg
  have b4_0 : ExAt Hg4_0 (.f2 "append" exS (.bnd true "q" exS exS)) w4_0 := l0.ex [none, none, some exS, some exP] ⟨aS, aP, trivial⟩ (by repeat' (first | rfl | constructor))
  refine ⟨rfl, fun Hg4_1 w4_1 sg l0 => ?_⟩
  have sm := sm.trans sg
  have aS := aS.kt (Kt.of sg)
  have aP := aP.kt (Kt.of sg)
  have hr_ := sg _ _ hr_
  have rows_ := rows_.kt sg
  have b4_0 := b4_0.kt (Kt.of sg)
  have b4_1 : ExAt Hg4_1 (.ite exS (.num 1) (.num 2)) w4_1 := l0.ex [none, none, some exS, some exP] ⟨aS, aP, trivial⟩ (by repeat' (first | rfl | constructor))
  refine ⟨rfl, fun Hg4_2 w4_2 sg l0 => ?_⟩
  have sm := sm.trans sg
  have aS := aS.kt (Kt.of sg)
  have aP := aP.kt (Kt.of sg)
  have hr_ := sg _ _ hr_
  have rows_ := rows_.kt sg
  have b4_0 := b4_0.kt (Kt.of sg)
  have b4_1 := b4_1.kt (Kt.of sg)
  have b4_2 : ExAt Hg4_2 (.ite (.num 1) exS (.num 2)) w4_2 := l0.ex [none, none, some exS, some exP] ⟨aS, aP, trivial⟩ (by repeat' (first | rfl | constructor))
  refine ⟨(by show 3 ≤ sizeLine; decide), fun l4 hl4 => ?_⟩
  have sg := same_new hl4 (.lst [w4_0, w4_1, w4_2])
  have sm := sm.trans sg
  have aS := aS.kt (Kt.of sg)
  have aP := aP.kt (Kt.of sg)
  have new_ : RowsAt _ [w4_0, w4_1, w4_2] := fun x hx => by
    simp only [List.mem_cons, List.not_mem_nil, or_false] at hx
    rcases hx with rfl | rfl | rfl
    · exact ⟨_, by simp [badRows], b4_0.kt (Kt.of sg)⟩
    · exact ⟨_, by simp [badRows], b4_1.kt (Kt.of sg)⟩
    · exact ⟨_, by simp [badRows], b4_2.kt (Kt.of sg)⟩
  have hr_ := sg _ _ hr_
  have rows_ := rows_.kt sg
  refine ⟨_, l4, _, _, rfl, rfl, hr_, upd_same, Nat.le_of_lt (small1000 (by simp)), fun r4 hr4 => ?_⟩
  have ne_ := (hS.keep sm).ne2 hr4
  have sg := same_new hr4 (HO.lst (((([w0_0, w0_1, w0_2, w0_3] ++ [w1_0, w1_1]) ++ [w2_0, w2_1, w2_2, w2_3, w2_4, w2_5]) ++ [w3_0, w3_1, w3_2, w3_3, w3_4]) ++ [w4_0, w4_1, w4_2]))
  have sm := sm.trans sg
  have aS := aS.kt (Kt.of sg)
  have aP := aP.kt (Kt.of sg)
  have rows_ := (rows_.app new_).kt sg
  have hr_ := upd_same (a := r4) (H := upd Hg4_2 l4 (.lst [w4_0, w4_1, w4_2])) (o := HO.lst (((([w0_0, w0_1, w0_2, w0_3] ++ [w1_0, w1_1]) ++ [w2_0, w2_1, w2_2, w2_3, w2_4, w2_5]) ++ [w3_0, w3_1, w3_2, w3_3, w3_4]) ++ [w4_0, w4_1, w4_2]))
  refine ⟨_, rfl, ?_⟩
  refine ⟨rfl, fun Hg5_0 w5_0 sg l0 => ?_⟩
  have sm := sm.trans sg
  have aS := aS.kt (Kt.of sg)
  have aP := aP.kt (Kt.of sg)
  have hr_ := sg _ _ hr_
  have rows_ := rows_.kt sg
  have b5_0 : ExAt Hg5_0 (.op "+" exS (.num 1)) w5_0 := l0.ex [none, none, some exS, some exP] ⟨aS, aP, trivial⟩ (by repeat' (first | rfl | constructor))
  refine ⟨rfl, fun Hg5_1 w5_1 sg l0 => ?_⟩
  have sm := sm.trans sg
  have aS := aS.kt (Kt.of sg)
  have aP := aP.kt (Kt.of sg)
  have hr_ := sg _ _ hr_
  have rows_ := rows_.kt sg
  have b5_0 := b5_0.kt (Kt.of sg)
  have b5_1 : ExAt Hg5_1 (.op "<" (.num 1) exP) w5_1 := l0.ex [none, none, some exS, some exP] ⟨aS, aP, trivial⟩ (by repeat' (first | rfl | constructor))
  refine ⟨rfl, fun Hg5_2 w5_2 sg l0 => ?_⟩
  have sm := sm.trans sg
  have aS := aS.kt (Kt.of sg)
  have aP := aP.kt (Kt.of sg)
  have hr_ := sg _ _ hr_
  have rows_ := rows_.kt sg
  have b5_0 := b5_0.kt (Kt.of sg)
  have b5_1 := b5_1.kt (Kt.of sg)
  have b5_2 : ExAt Hg5_2 (.bnd true "q" (.num 1) (.num 2)) w5_2 := l0.ex [none, none, some exS, some exP] ⟨aS, aP, trivial⟩ (by repeat' (first | rfl | constructor))
  refine ⟨(by show 3 ≤ sizeLine; decide), fun l5 hl5 => ?_⟩
  have sg := same_new hl5 (.lst [w5_0, w5_1, w5_2])
  have sm := sm.trans sg
  have aS := aS.kt (Kt.of sg)
  have aP := aP.kt (Kt.of sg)
  have new_ : RowsAt _ [w5_0, w5_1, w5_2] := fun x hx => by
    simp only [List.mem_cons, List.not_mem_nil, or_false] at hx
    rcases hx with rfl | rfl | rfl
    · exact ⟨_, by simp [badRows], b5_0.kt (Kt.of sg)⟩
    · exact ⟨_, by simp [badRows], b5_1.kt (Kt.of sg)⟩
    · exact ⟨_, by simp [badRows], b5_2.kt (Kt.of sg)⟩
  have hr_ := sg _ _ hr_
  have rows_ := rows_.kt sg
  refine ⟨_, l5, _, _, rfl, rfl, hr_, upd_same, Nat.le_of_lt (small1000 (by simp)), fun r5 hr5 => ?_⟩
  have ne_ := (hS.keep sm).ne2 hr5
  have sg := same_new hr5 (HO.lst ((((([w0_0, w0_1, w0_2, w0_3] ++ [w1_0, w1_1]) ++ [w2_0, w2_1, w2_2, w2_3, w2_4, w2_5]) ++ [w3_0, w3_1, w3_2, w3_3, w3_4]) ++ [w4_0, w4_1, w4_2]) ++ [w5_0, w5_1, w5_2]))
  have sm := sm.trans sg
  have aS := aS.kt (Kt.of sg)
  have aP := aP.kt (Kt.of sg)
  have rows_ := (rows_.app new_).kt sg
  have hr_ := upd_same (a := r5) (H := upd Hg5_2 l5 (.lst [w5_0, w5_1, w5_2])) (o := HO.lst ((((([w0_0, w0_1, w0_2, w0_3] ++ [w1_0, w1_1]) ++ [w2_0, w2_1, w2_2, w2_3, w2_4, w2_5]) ++ [w3_0, w3_1, w3_2, w3_3, w3_4]) ++ [w4_0, w4_1, w4_2]) ++ [w5_0, w5_1, w5_2]))
  refine ⟨_, rfl, ?_⟩
  refine ⟨rfl, fun Hg6_0 w6_0 sg l0 => ?_⟩
  have sm := sm.trans sg
  have aS := aS.kt (Kt.of sg)
  have aP := aP.kt (Kt.of sg)
  have hr_ := sg _ _ hr_
  have rows_ := rows_.kt sg
  have b6_0 : ExAt Hg6_0 (.call "sort" (.num 1)) w6_0 := l0.ex [none, none, some exS, some exP] ⟨aS, aP, trivial⟩ (by repeat' (first | rfl | constructor))
  refine ⟨rfl, fun Hg6_1 w6_1 sg l0 => ?_⟩
  have sm := sm.trans sg
  have aS := aS.kt (Kt.of sg)
  have aP := aP.kt (Kt.of sg)
  have hr_ := sg _ _ hr_
  have rows_ := rows_.kt sg
  have b6_0 := b6_0.kt (Kt.of sg)
  have b6_1 : ExAt Hg6_1 (.call "down" exS) w6_1 := l0.ex [none, none, some exS, some exP] ⟨aS, aP, trivial⟩ (by repeat' (first | rfl | constructor))
  refine ⟨rfl, fun Hg6_2 w6_2 sg l0 => ?_⟩
  have sm := sm.trans sg
  have aS := aS.kt (Kt.of sg)
  have aP := aP.kt (Kt.of sg)
  have hr_ := sg _ _ hr_
  have rows_ := rows_.kt sg
  have b6_0 := b6_0.kt (Kt.of sg)
  have b6_1 := b6_1.kt (Kt.of sg)
  have b6_2 : ExAt Hg6_2 (.f1 "flat" (.bnd true "q" exS (.var "q"))) w6_2 := l0.ex [none, none, some exS, some exP] ⟨aS, aP, trivial⟩ (by repeat' (first | rfl | constructor))
  refine ⟨(by show 3 ≤ sizeLine; decide), fun l6 hl6 => ?_⟩
  have sg := same_new hl6 (.lst [w6_0, w6_1, w6_2])
  have sm := sm.trans sg
  have aS := aS.kt (Kt.of sg)
  have aP := aP.kt (Kt.of sg)
  have new_ : RowsAt _ [w6_0, w6_1, w6_2] := fun x hx => by
    simp only [List.mem_cons, List.not_mem_nil, or_false] at hx
    rcases hx with rfl | rfl | rfl
    · exact ⟨_, by simp [badRows], b6_0.kt (Kt.of sg)⟩
    · exact ⟨_, by simp [badRows], b6_1.kt (Kt.of sg)⟩
    · exact ⟨_, by simp [badRows], b6_2.kt (Kt.of sg)⟩
  have hr_ := sg _ _ hr_
  have rows_ := rows_.kt sg
  refine ⟨_, l6, _, _, rfl, rfl, hr_, upd_same, Nat.le_of_lt (small1000 (by simp)), fun r6 hr6 => ?_⟩
  have ne_ := (hS.keep sm).ne2 hr6
  have sg := same_new hr6 (HO.lst (((((([w0_0, w0_1, w0_2, w0_3] ++ [w1_0, w1_1]) ++ [w2_0, w2_1, w2_2, w2_3, w2_4, w2_5]) ++ [w3_0, w3_1, w3_2, w3_3, w3_4]) ++ [w4_0, w4_1, w4_2]) ++ [w5_0, w5_1, w5_2]) ++ [w6_0, w6_1, w6_2]))
  have sm := sm.trans sg
  have aS := aS.kt (Kt.of sg)
  have aP := aP.kt (Kt.of sg)
  have rows_ := (rows_.app new_).kt sg
  have hr_ := upd_same (a := r6) (H := upd Hg6_2 l6 (.lst [w6_0, w6_1, w6_2])) (o := HO.lst (((((([w0_0, w0_1, w0_2, w0_3] ++ [w1_0, w1_1]) ++ [w2_0, w2_1, w2_2, w2_3, w2_4, w2_5]) ++ [w3_0, w3_1, w3_2, w3_3, w3_4]) ++ [w4_0, w4_1, w4_2]) ++ [w5_0, w5_1, w5_2]) ++ [w6_0, w6_1, w6_2]))
  obtain ⟨n1, n2⟩ := ne_
  have hS1 := hS.keep sm
  refine ⟨_, rfl, _, rfl, st, c, _, _, rfl, hS1, hr_, n1, n2, by simp, by simp, fun HA xb gA hxb => ?_⟩
  obtain ⟨eb, hb, ab0⟩ := rows_ xb hxb
  have ab := ab0.kt (gA.kt hS1)
  have ag := (hg.kt (Kt.of sm)).kt (gA.kt hS1)
  have aS := aS.kt (gA.kt hS1)
  have g0A : Go st c H HA := (Go.same hS sm).trans gA
  refine ⟨_, rfl, ⟨rfl, fun HB wB sB lB => ⟨rfl, fun HC wC sC lC => ⟨rfl, fun HD wD sD lD => ⟨(by show 3 ≤ sizeLine; decide), fun rl hrl => ?_⟩⟩⟩⟩⟩
  have bB : ExAt HB (.bnd false "q" eb good) wB := lB.ex [none, some good, some exS, none, none, some eb] ⟨ag.kt (Kt.of sB), aS.kt (Kt.of sB), ab.kt (Kt.of sB), trivial⟩ (by repeat' (first | rfl | constructor))
  have kC := (Kt.of sB).trans (Kt.of sC)
  have bC : ExAt HC (.f1 "second" (.f2 "pair" eb good)) wC := lC.ex [none, some good, some exS, none, none, some eb] ⟨ag.kt kC, aS.kt kC, ab.kt kC, trivial⟩ (by repeat' (first | rfl | constructor))
  have kD := kC.trans (Kt.of sD)
  have bD : ExAt HD (.bnd false "r" exS (.bnd false "q" eb good)) wD := lD.ex [none, some good, some exS, none, none, some eb] ⟨ag.kt kD, aS.kt kD, ab.kt kD, trivial⟩ (by repeat' (first | rfl | constructor))
  have sE := same_new hrl (.lst [wB, wC, wD])
  have sAD := (sB.trans sC).trans sD
  have hS2 := gA.2.keep sAD
  obtain ⟨m1, m2⟩ := hS2.ne2 hrl
  have hS3 := hS2.keep sE
  refine ⟨st, c, rl, _, rfl, hS3, upd_same, m1, m2, by show 0 < 3; decide, by show 3 ≤ 1000; decide, fun HF x gF hx => ?_⟩
  have kF := gF.kt hS3
  have g0F : Go st c H HF := (g0A.trans (Go.same gA.2 (sAD.trans sE))).trans gF
  simp only [List.mem_cons, List.not_mem_nil, or_false] at hx
  rcases hx with rfl | rfl | rfl
  · exact q HF eb _ _ g0F hb (by simp [wraps]) ((bB.kt (Kt.of ((sC.trans sD).trans sE))).kt kF)
  · exact q HF eb _ _ g0F hb (by simp [wraps]) ((bC.kt (Kt.of (sD.trans sE))).kt kF)
  · exact q HF eb _ _ g0F hb (by simp [wraps]) ((bD.kt (Kt.of sE)).kt kF)
end
end K2

namespace K2
open PySem PySem.Spec PyProof.Rows L2
theorem ty1_mem {w : Str} {k l : Kd} (h : ty1 w k = some l) : w ∈ w1s := by
  simp only [w1s, List.mem_cons, List.not_mem_nil, or_false]
  cases k <;> simp only [ty1] at h
  · split at h
    · rename_i c; exact .inr (.inr (.inl c))
    · cases h
  · split at h
    · rename_i c; exact .inl c
    · split at h
      · rename_i c; exact .inr (.inl c)
      · cases h
  · split at h
    · rename_i c; exact .inr (.inr (.inr (.inl c)))
    · split at h
      · rename_i c; exact .inr (.inr (.inr (.inr (.inl c))))
      · split at h
        · rename_i c; exact .inr (.inr (.inr (.inr (.inr c))))
        · cases h
theorem ty2_mem {w : Str} {k j l : Kd} (h : ty2 w k j = some l) : w ∈ w2s := by
  simp only [w2s, List.mem_cons, List.not_mem_nil, or_false]
  unfold ty2 at h
  split at h
  · rename_i c; exact .inl c
  · split at h
    · split at h
      · rename_i c; exact .inr (.inl c)
      · split at h
        · rename_i c; exact .inr (.inr (.inl c))
        · split at h
          · rename_i c; exact .inr (.inr (.inr c))
          · cases h
    · cases h
/-- what is well typed has the forms of the document, and its signs and names -/
theorem ty_good {S : Sg} : ∀ (e : Ex) (G : Gm) (k : Kd), ty S G e = some k → e.wf ∧ e.allOp ∧ ∀ x ∈ e.fv, (G x).isSome
  | .num _, _, _, _ => ⟨trivial, trivial, fun _ z => (nomatch z)⟩
  | .var x, G, k, h => ⟨trivial, trivial, fun y hy => by
      rw [List.mem_singleton.mp hy]
      have h' : G x = some k := h
      rw [h']; rfl⟩
  | .bnd false x a b, G, k, h => by
    simp only [ty] at h
    split at h
    · rename_i j hj
      obtain ⟨a1, a2, a3⟩ := ty_good a G j hj
      obtain ⟨b1, b2, b3⟩ := ty_good b _ k h
      refine ⟨⟨a1, b1⟩, ⟨a2, b2⟩, fun y hy => ?_⟩
      rcases List.mem_append.mp hy with hy | hy
      · exact a3 y hy
      · obtain ⟨m1, m2⟩ := List.mem_filter.mp hy
        have z := b3 y m1
        unfold Gm.put at z
        rw [if_neg (of_decide_eq_true m2)] at z
        exact z
    · cases h
  | .bnd true x a b, G, k, h => by
    simp only [ty] at h
    split at h
    · rename_i j hj
      obtain ⟨l, hl, _⟩ := Option.map_eq_some_iff.mp h
      obtain ⟨a1, a2, a3⟩ := ty_good a G _ hj
      obtain ⟨b1, b2, b3⟩ := ty_good b _ l hl
      refine ⟨⟨a1, b1⟩, ⟨a2, b2⟩, fun y hy => ?_⟩
      rcases List.mem_append.mp hy with hy | hy
      · exact a3 y hy
      · obtain ⟨m1, m2⟩ := List.mem_filter.mp hy
        have z := b3 y m1
        unfold Gm.put at z
        rw [if_neg (of_decide_eq_true m2)] at z
        exact z
    · cases h
  | .op s a b, G, k, h => by
    simp only [ty] at h
    split at h
    · rename_i c
      obtain ⟨a1, a2, a3⟩ := ty_good a G _ c.2.1
      obtain ⟨b1, b2, b3⟩ := ty_good b G _ c.2.2
      exact ⟨⟨a1, b1⟩, ⟨.inl c.1, a2, b2⟩, fun y hy => (List.mem_append.mp hy).elim (a3 y) (b3 y)⟩
    · cases h
  | .call f a, G, k, h => by
    simp only [ty] at h
    split at h
    · split at h
      · rename_i c
        exact ty_good a G _ c
      · cases h
    · cases h
  | .f1 w a, G, k, h => by
    simp only [ty] at h
    split at h
    · rename_i c
      obtain ⟨a1, a2, a3⟩ := ty_good a G _ c
      exact ⟨⟨ty1_mem h, a1⟩, a2, a3⟩
    · cases h
  | .f2 w a b, G, k, h => by
    simp only [ty] at h
    split at h
    · rename_i c d
      obtain ⟨a1, a2, a3⟩ := ty_good a G _ c
      obtain ⟨b1, b2, b3⟩ := ty_good b G _ d
      exact ⟨⟨ty2_mem h, a1, b1⟩, ⟨a2, b2⟩, fun y hy => (List.mem_append.mp hy).elim (a3 y) (b3 y)⟩
    · cases h
  | .ite c a b, G, k, h => by
    simp only [ty] at h
    split at h
    · rename_i c1
      split at h
      · rename_i c2
        split at h
        · rename_i c3
          obtain ⟨z1, z2, z3⟩ := ty_good c G _ c1
          obtain ⟨a1, a2, a3⟩ := ty_good a G _ c2
          obtain ⟨b1, b2, b3⟩ := ty_good b G _ c3
          exact ⟨⟨z1, a1, b1⟩, ⟨z2, a2, b2⟩, fun y hy => (List.mem_append.mp hy).elim (z3 y) fun hy => (List.mem_append.mp hy).elim (a3 y) (b3 y)⟩
        · cases h
      · cases h
    · cases h
theorem Kd.sz_dep : ∀ k : Kd, k.sz + 1 ≤ 2 ^ k.dep
  | .num => by decide
  | .pair a b => by
    have h1 := a.sz_dep
    have h2 := b.sz_dep
    have h3 : 2 ^ a.dep ≤ 2 ^ max a.dep b.dep := Nat.pow_le_pow_right (by decide) (by omega)
    have h4 : 2 ^ b.dep ≤ 2 ^ max a.dep b.dep := Nat.pow_le_pow_right (by decide) (by omega)
    simp only [Kd.sz, Kd.dep, Nat.pow_succ]
    omega
  | .seq a => by
    have h1 := a.sz_dep
    simp only [Kd.sz, Kd.dep, Nat.pow_succ]
    omega
end K2

namespace K2
open PySem PySem.Spec PyProof.Rows L2
theorem okr_bad {S : Sg} {vis : Vm} (hS : Sx S) (h1 : Gof vis "nobody" = none) (h2 : Gof vis "q" = none) {b : Ex} (hb : b ∈ badRows) (rest : List Sp2) (stk : List Kd) : Okr S none (b.lin ++ rest) stk vis := by
  obtain ⟨b1, _, b3, _⟩ := bad_ok b hb
  refine okr_lin b rest stk vis b1 (fun _ => b3) ?_
  rw [bad_ty hS h1 h2 b hb]
  rfl
theorem okr_wraps {S : Sg} {vis : Vm} (hS : Sx S) (h1 : Gof vis "nobody" = none) (h2 : Gof vis "q" = none) {b good e : Ex} (hb : b ∈ badRows) (he : e ∈ wraps b good) : Okr S none e.lin [] vis := by
  simp only [wraps, List.mem_cons, List.not_mem_nil, or_false] at he
  rcases he with rfl | rfl | rfl
  · exact okr_bad hS h1 h2 hb _ []
  · show Okr S none ((b.lin ++ (good.lin ++ [le (.f2 "pair" b good)])) ++ [le (.f1 "second" (.f2 "pair" b good))]) [] vis
    rw [List.append_assoc]
    exact okr_bad hS h1 h2 hb _ []
  · have tS : ty S (Gof vis) exS = some (.seq .num) := ty_1 rfl ty1_iota
    refine okr_lin exS _ [] vis ⟨by decide +kernel, trivial⟩ (fun z => by rw [tS] at z; cases z) ?_
    rw [tS]
    refine .inl ⟨rfl, false, "r", exS, .bnd false "q" b good, .seq .num, rfl, rfl, .inl ⟨.seq .num, rfl, ?_⟩⟩
    have g1 : Gof (fun y => if y = "r" then vis "r" ++ [.seq .num] else vis y) "nobody" = none := by
      rw [Gof_put]; unfold Gm.put; rw [if_neg (by decide +kernel)]; exact h1
    have g2 : Gof (fun y => if y = "r" then vis "r" ++ [.seq .num] else vis y) "q" = none := by
      rw [Gof_put]; unfold Gm.put; rw [if_neg (by decide +kernel)]; exact h2
    show Okr S none ((b.lin ++ bi (.bnd false "q" b good) :: (good.lin ++ [le (.bnd false "q" b good)])) ++ _) _ _
    rw [List.append_assoc]
    exact okr_bad hS g1 g2 hb _ _
theorem wraps_ty {S : Sg} {G : Gm} (hS : Sx S) (h1 : G "nobody" = none) (h2 : G "q" = none) {b good e : Ex} (hb : b ∈ badRows) (he : e ∈ wraps b good) : ty S G e = none := by
  have t0 := bad_ty hS h1 h2 b hb
  simp only [wraps, List.mem_cons, List.not_mem_nil, or_false] at he
  rcases he with rfl | rfl | rfl
  · simp [ty, t0]
  · simp [ty, t0]
  · have tS : ty S G exS = some (.seq .num) := ty_1 rfl ty1_iota
    have g1 : (G.put "r" (.seq .num)) "nobody" = none := by unfold Gm.put; rw [if_neg (by decide +kernel)]; exact h1
    have g2 : (G.put "r" (.seq .num)) "q" = none := by unfold Gm.put; rw [if_neg (by decide +kernel)]; exact h2
    have t1 := bad_ty hS g1 g2 b hb
    simp [ty, tS, t1]
theorem wraps_wf {b good e : Ex} (hb : b ∈ badRows) (he : e ∈ wraps b good) (w : good.wf) (o : good.allOp) : e.wf ∧ e.allOp ∧ e.sz ≤ good.sz + 30 := by
  obtain ⟨b1, b2, _, b4, _⟩ := bad_ok b hb
  simp only [wraps, List.mem_cons, List.not_mem_nil, or_false] at he
  rcases he with rfl | rfl | rfl
  · exact ⟨⟨b1, w⟩, ⟨b2, o⟩, by simp only [Ex.sz]; omega⟩
  · exact ⟨⟨by decide +kernel, by decide +kernel, b1, w⟩, ⟨b2, o⟩, by simp only [Ex.sz]; omega⟩
  · exact ⟨⟨⟨by decide +kernel, trivial⟩, b1, w⟩, ⟨trivial, b2, o⟩, by simp only [Ex.sz, exS]; omega⟩
end K2

namespace K2
open PySem PySem.Spec PyProof.Rows L2
/-! ### expressions of short words -/
def names7 : List Str := ["nobody", "down", "sort", "even", "odd", "f0", "f1"]
def vars_ : List Str := "nobody" :: "w" :: shorts
def Ex.nice : Ex → Prop
  | .num n => InR n
  | .var x => x ∈ vars_
  | .bnd _ x a b => x ∈ shorts ∧ a.nice ∧ b.nice
  | .op s a b => (s ∈ sgns ∨ s = "**") ∧ a.nice ∧ b.nice
  | .call f a => f ∈ names7 ∧ a.nice
  | .f1 w a => w ∈ w1s ∧ a.nice
  | .f2 w a b => w ∈ w2s ∧ a.nice ∧ b.nice
  | .ite c a b => c.nice ∧ a.nice ∧ b.nice
theorem shorts_vars {x : Str} (h : x ∈ shorts) : x ∈ vars_ := List.mem_cons_of_mem _ (List.mem_cons_of_mem _ h)
theorem put_vars {G : Gm} {x : Str} {j : Kd} (hG : ∀ y, G y ≠ none → y ∈ vars_) (hx : x ∈ shorts) : ∀ y, (G.put x j) y ≠ none → y ∈ vars_ := fun y hy => by
  unfold Gm.put at hy
  by_cases c : y = x
  · rw [c]; exact shorts_vars hx
  · rw [if_neg c] at hy; exact hG y hy
theorem nice_of {S : Sg} (hS : ∀ x p, find S x = some p → x ∈ names7) : ∀ (e : Ex) (G : Gm) (k : Kd), ty S G e = some k → e.dep < 1000000 → (∀ y, G y ≠ none → y ∈ vars_) → e.nice
  | .num n, _, _, _, hd, _ => nsw_in hd
  | .var x, G, k, h, _, hG => hG x fun z => by
      have h' : G x = some k := h
      rw [z] at h'; cases h'
  | .bnd false x a b, G, k, h, hd, hG => by
    simp only [ty] at h
    simp only [Ex.dep] at hd
    have hx := nmw_in (x := x) (by omega)
    split at h
    · rename_i j hj
      exact ⟨hx, nice_of hS a G j hj (by omega) hG, nice_of hS b _ k h (by omega) (put_vars hG hx)⟩
    · cases h
  | .bnd true x a b, G, k, h, hd, hG => by
    simp only [ty] at h
    simp only [Ex.dep] at hd
    have hx := nmw_in (x := x) (by omega)
    split at h
    · rename_i j hj
      obtain ⟨l, hl, _⟩ := Option.map_eq_some_iff.mp h
      exact ⟨hx, nice_of hS a G _ hj (by omega) hG, nice_of hS b _ l hl (by omega) (put_vars hG hx)⟩
    · cases h
  | .op s a b, G, k, h, hd, hG => by
    simp only [ty] at h
    simp only [Ex.dep] at hd
    split at h
    · rename_i c
      exact ⟨.inl c.1, nice_of hS a G _ c.2.1 (by omega) hG, nice_of hS b G _ c.2.2 (by omega) hG⟩
    · cases h
  | .call f a, G, k, h, hd, hG => by
    simp only [ty] at h
    simp only [Ex.dep] at hd
    split at h
    · rename_i g r hf
      split at h
      · rename_i c
        exact ⟨hS f _ hf, nice_of hS a G _ c (by omega) hG⟩
      · cases h
    · cases h
  | .f1 w a, G, k, h, hd, hG => by
    simp only [ty] at h
    simp only [Ex.dep] at hd
    split at h
    · rename_i c
      exact ⟨ty1_mem h, nice_of hS a G _ c (by omega) hG⟩
    · cases h
  | .f2 w a b, G, k, h, hd, hG => by
    simp only [ty] at h
    simp only [Ex.dep] at hd
    split at h
    · rename_i c d
      exact ⟨ty2_mem h, nice_of hS a G _ c (by omega) hG, nice_of hS b G _ d (by omega) hG⟩
    · cases h
  | .ite c a b, G, k, h, hd, hG => by
    simp only [ty] at h
    simp only [Ex.dep] at hd
    split at h
    · rename_i c1
      split at h
      · rename_i c2
        split at h
        · rename_i c3
          exact ⟨nice_of hS c G _ c1 (by omega) hG, nice_of hS a G _ c2 (by omega) hG, nice_of hS b G _ c3 (by omega) hG⟩
        · cases h
      · cases h
    · cases h
theorem short_of {x : Str} {l : List Str} (h : x ∈ l) {n : Nat} (hl : (l.all fun y => decide (y.length ≤ n)) = true) : x.length ≤ n := of_decide_eq_true (List.all_eq_true.mp hl x h)
theorem Ex.nice.good : ∀ {e : Ex}, e.nice → e.wf ∧ e.allOp ∧ e.allShort
  | .num _, _ => ⟨trivial, trivial, trivial⟩
  | .var x, h => ⟨trivial, trivial, short_of h (by decide +kernel)⟩
  | .bnd _ x a b, h => let ⟨a1, a2, a3⟩ := h.2.1.good; let ⟨b1, b2, b3⟩ := h.2.2.good; ⟨⟨a1, b1⟩, ⟨a2, b2⟩, ⟨a3, b3⟩⟩
  | .op s a b, h => let ⟨a1, a2, a3⟩ := h.2.1.good; let ⟨b1, b2, b3⟩ := h.2.2.good; ⟨⟨a1, b1⟩, ⟨h.1, a2, b2⟩, ⟨a3, b3⟩⟩
  | .call f a, h => let ⟨a1, a2, a3⟩ := h.2.good; ⟨a1, a2, short_of h.1 (by decide +kernel), a3⟩
  | .f1 w a, h => let ⟨a1, a2, a3⟩ := h.2.good; ⟨⟨h.1, a1⟩, a2, a3⟩
  | .f2 w a b, h => let ⟨a1, a2, a3⟩ := h.2.1.good; let ⟨b1, b2, b3⟩ := h.2.2.good; ⟨⟨h.1, a1, b1⟩, ⟨a2, b2⟩, ⟨a3, b3⟩⟩
  | .ite c a b, h => let ⟨c1, c2, c3⟩ := h.1.good; let ⟨a1, a2, a3⟩ := h.2.1.good; let ⟨b1, b2, b3⟩ := h.2.2.good; ⟨⟨c1, a1, b1⟩, ⟨c2, a2, b2⟩, ⟨c3, a3, b3⟩⟩
theorem bad_nice : ∀ e ∈ badRows, e.nice := by
  intro e he
  simp only [badRows, List.mem_cons, List.not_mem_nil, or_false] at he
  rcases he with rfl | rfl | rfl | rfl | rfl | rfl | rfl | rfl | rfl | rfl | rfl | rfl | rfl | rfl | rfl | rfl | rfl | rfl | rfl | rfl | rfl | rfl | rfl | rfl | rfl | rfl <;> simp only [Ex.nice, exS, exP, InR] <;> decide +kernel
theorem wraps_nice {b good e : Ex} (hb : b ∈ badRows) (he : e ∈ wraps b good) (g : good.nice) : e.nice := by
  have b1 := bad_nice b hb
  simp only [wraps, List.mem_cons, List.not_mem_nil, or_false] at he
  rcases he with rfl | rfl | rfl
  · exact ⟨by decide +kernel, b1, g⟩
  · exact ⟨by decide +kernel, by decide +kernel, b1, g⟩
  · exact ⟨by decide +kernel, ⟨by decide +kernel, by unfold Ex.nice InR; decide⟩, by decide +kernel, b1, g⟩
/-- whatever has short words is checked by a walk that fails where it has no kind -/
theorem okr_nice {S : Sg} {vis : Vm} {e : Ex} (h : e.nice) (hn : ty S (Gof vis) e = none) : Okr S none e.lin [] vis := by
  have := okr_lin (S := S) (fin := none) e [] [] vis h.good.1 (fun _ => h.good.2.2) (by rw [hn]; rfl)
  rwa [List.append_nil] at this
theorem chk_of {fs : List Fn} (hl : fs.length ≤ 20) (hk : ∀ f ∈ fs, f.given.sz ≤ 1000 ∧ f.result.sz ≤ 1000 ∧ f.name.length ≤ 900) (ht : tot fs ≤ 50000) (hn : ∀ f ∈ fs, f.body.nice) : ChkIn fs :=
  ⟨⟨hl, hk⟩, ht, fun f m => ⟨(hn f m).good.1, (hn f m).good.2.1, fun z vis hv => okr_nice (hn f m) (by rw [hv]; exact z)⟩⟩
/-! ### as data -/
def Ex.d : Ex → PyData
  | .num n => .tuple [.str "num", .int n]
  | .var x => .tuple [.str "var", .str x]
  | .bnd e x a b => .tuple [.str (bw e), .str x, a.d, b.d]
  | .op s a b => .tuple [.str "op", .str s, a.d, b.d]
  | .call f a => .tuple [.str "call", .str f, a.d]
  | .f1 w a => .tuple [.str w, a.d]
  | .f2 w a b => .tuple [.str w, a.d, b.d]
  | .ite c a b => .tuple [.str "if", c.d, a.d, b.d]
theorem ExAt.dp {K : PySem.W.Frag} {H : Hp} : ∀ {e : Ex} {v : V}, ExAt H e v → Dp K H v e.d
  | .num _, _, ⟨a, e, h⟩ => by rw [e]; exact .tup (.inl (.inl h)) (.cons (.str _) (.cons (.int _) .nil))
  | .var _, _, ⟨a, e, h⟩ => by rw [e]; exact .tup (.inl (.inl h)) (.cons (.str _) (.cons (.str _) .nil))
  | .bnd _ _ _ _, _, ⟨a, u, w, e, h, x, y⟩ => by rw [e]; exact .tup (.inl (.inl h)) (.cons (.str _) (.cons (.str _) (.cons x.dp (.cons y.dp .nil))))
  | .op _ _ _, _, ⟨a, u, w, e, h, x, y⟩ => by rw [e]; exact .tup (.inl (.inl h)) (.cons (.str _) (.cons (.str _) (.cons x.dp (.cons y.dp .nil))))
  | .call _ _, _, ⟨a, u, e, h, x⟩ => by rw [e]; exact .tup (.inl (.inl h)) (.cons (.str _) (.cons (.str _) (.cons x.dp .nil)))
  | .f1 _ _, _, ⟨a, u, e, h, x⟩ => by rw [e]; exact .tup (.inl (.inl h)) (.cons (.str _) (.cons x.dp .nil))
  | .f2 _ _ _, _, ⟨a, u, y, e, h, x, z⟩ => by rw [e]; exact .tup (.inl (.inl h)) (.cons (.str _) (.cons x.dp (.cons z.dp .nil)))
  | .ite _ _ _, _, ⟨a, t, u, y, e, h, z, x, w⟩ => by rw [e]; exact .tup (.inl (.inl h)) (.cons (.str _) (.cons z.dp (.cons x.dp (.cons w.dp .nil))))
/-- what may be shown: no dict, numbers of the range, of depth n and length m at most -/
structure Shw (d : PyData) (n m : Nat) : Prop where
  ok : d.showable = true
  nd : d.hasDict = false
  dp : d.depth ≤ n
  ln : d.shown.length ≤ m
structure Shws (ds : List PyData) (n m : Nat) : Prop where
  ok : PyData.showableAll ds = true
  nd : PyData.hasDictAll ds = false
  dp : PyData.depthAll ds ≤ n
  ln : ((PyData.shownAll ds).map (·.length)).sum ≤ m
theorem Shw.mono {d : PyData} {n m n' m' : Nat} (h : Shw d n m) (hn : n ≤ n') (hm : m ≤ m') : Shw d n' m' := ⟨h.ok, h.nd, Nat.le_trans h.dp hn, Nat.le_trans h.ln hm⟩
theorem Shws.nil {n : Nat} : Shws [] n 0 := ⟨rfl, rfl, Nat.zero_le _, Nat.le_refl _⟩
theorem Shws.cons {d : PyData} {ds : List PyData} {n m m' : Nat} (h : Shw d n m) (hs : Shws ds n m') : Shws (d :: ds) n (m + m') :=
  ⟨by show (d.showable && PyData.showableAll ds) = true; rw [h.ok, hs.ok]; rfl, by show (d.hasDict || PyData.hasDictAll ds) = false; rw [h.nd, hs.nd]; rfl,
   by show max d.depth (PyData.depthAll ds) ≤ n; have := h.dp; have := hs.dp; omega, by show d.shown.length + ((PyData.shownAll ds).map (·.length)).sum ≤ m + m'; have := h.ln; have := hs.ln; omega⟩
theorem Shws.tup {ds : List PyData} {n m : Nat} (h : Shws ds n m) : Shw (.tuple ds) (n + 1) (m + 2 * ds.length + 3) :=
  ⟨h.ok, h.nd, by show PyData.depthAll ds + 1 ≤ n + 1; have := h.dp; omega, by
    have a := tupleText_len_le (PyData.shownAll ds)
    have b := PyData.shownAll_length ds
    have c := h.ln
    show (tupleText (PyData.shownAll ds)).length ≤ _
    omega⟩
theorem Shws.lst {ds : List PyData} {n m : Nat} (h : Shws ds n m) : Shw (.list ds) (n + 1) (m + 2 * ds.length + 3) :=
  ⟨h.ok, h.nd, by show PyData.depthAll ds + 1 ≤ n + 1; have := h.dp; omega, by
    have a := listText_len_le (PyData.shownAll ds)
    have b := PyData.shownAll_length ds
    have c := h.ln
    show (listText (PyData.shownAll ds)).length ≤ _
    omega⟩
theorem shw_int {n : Int} (h : InR n) : Shw (.int n) 0 11 := ⟨by
    show decide (n.natAbs.log2 < 1920) = true
    refine decide_eq_true ?_
    exact Nat.lt_of_lt_of_le (PySem.Flt.log2_lt_of (n := n.natAbs) (k := 34) (by decide) (by unfold InR at h; omega)) (by decide), rfl, Nat.le_refl _, by
    show (Str.ofString (toString n)).length ≤ 11
    have e := int_text_length_le10 (a := n) (k := 10) (by decide) (by unfold InR at h; omega)
    rw [PySem.ofString_length]; exact e⟩
theorem shw_str {x : Str} {l : List Str} (h : x ∈ l) {n : Nat} (hl : (l.all fun y => decide ((PySem.reprText y).length ≤ n)) = true) : Shw (.str x) 0 n := ⟨rfl, rfl, Nat.le_refl _, of_decide_eq_true (List.all_eq_true.mp hl x h)⟩
theorem shw_s1 (x : Str) {n : Nat} (h : decide ((PySem.reprText x).length ≤ n) = true) : Shw (.str x) 0 n := ⟨rfl, rfl, Nat.le_refl _, of_decide_eq_true h⟩
theorem bw_mem (e : Bool) : bw e ∈ (["let", "each"] : List Str) := by cases e <;> decide +kernel
theorem op_mem {s : Str} (h : s ∈ sgns ∨ s = "**") : s ∈ ("**" :: sgns : List Str) := by
  rcases h with h | h
  · exact List.mem_cons_of_mem _ h
  · rw [h]; exact List.mem_cons_self ..
/-- the depth without the marks for wild words -/
def Ex.dp : Ex → Nat
  | .num _ | .var _ => 1
  | .bnd _ _ a b | .op _ a b | .f2 _ a b => max a.dp b.dp + 1
  | .call _ a | .f1 _ a => a.dp + 1
  | .ite c a b => max c.dp (max a.dp b.dp) + 1
theorem Ex.dp_le : ∀ e : Ex, e.dp ≤ e.dep
  | .num n => nsw_pos n
  | .var _ => Nat.le_refl _
  | .bnd _ x a b => by have := a.dp_le; have := b.dp_le; simp only [Ex.dp, Ex.dep]; omega
  | .op _ a b => by have := a.dp_le; have := b.dp_le; simp only [Ex.dp, Ex.dep]; omega
  | .f2 _ a b => by have := a.dp_le; have := b.dp_le; simp only [Ex.dp, Ex.dep]; omega
  | .call _ a => by have := a.dp_le; simp only [Ex.dp, Ex.dep]; omega
  | .f1 _ a => by have := a.dp_le; simp only [Ex.dp, Ex.dep]; omega
  | .ite c a b => by have := c.dp_le; have := a.dp_le; have := b.dp_le; simp only [Ex.dp, Ex.dep]; omega
theorem Ex.nice.shw : ∀ {e : Ex} {n : Nat}, e.nice → e.dp ≤ n → Shw e.d n (50 * e.sz)
  | .num i, n, h, hd => by
    have hd : 1 ≤ n := hd
    exact ((Shws.nil.cons (shw_int h)).cons (shw_s1 "num" (n := 5) (by decide +kernel))).tup.mono hd (by simp only [List.length_cons, List.length_nil, Ex.sz]; omega)
  | .var x, n, h, hd => by
    have hd : 1 ≤ n := hd
    exact ((Shws.nil.cons (shw_str (n := 10) h (by decide +kernel))).cons (shw_s1 "var" (n := 5) (by decide +kernel))).tup.mono hd (by simp only [List.length_cons, List.length_nil, Ex.sz]; omega)
  | .bnd e x a b, n, ⟨h1, h2, h3⟩, hd => by
    simp only [Ex.dp] at hd
    obtain ⟨m, rfl⟩ : ∃ m, n = m + 1 := ⟨n - 1, by omega⟩
    have A := h2.shw (n := m) (by omega)
    have B := h3.shw (n := m) (by omega)
    exact ((((Shws.nil.cons B).cons A).cons ((shw_str (n := 10) (shorts_vars h1) (by decide +kernel)).mono (Nat.zero_le _) (Nat.le_refl _))).cons ((shw_str (n := 6) (bw_mem e) (by decide +kernel)).mono (Nat.zero_le _) (Nat.le_refl _))).tup.mono (Nat.le_refl _) (by simp only [List.length_cons, List.length_nil, Ex.sz]; omega)
  | .op s a b, n, ⟨h1, h2, h3⟩, hd => by
    simp only [Ex.dp] at hd
    obtain ⟨m, rfl⟩ : ∃ m, n = m + 1 := ⟨n - 1, by omega⟩
    have A := h2.shw (n := m) (by omega)
    have B := h3.shw (n := m) (by omega)
    exact ((((Shws.nil.cons B).cons A).cons ((shw_str (n := 10) (op_mem h1) (by decide +kernel)).mono (Nat.zero_le _) (Nat.le_refl _))).cons ((shw_s1 "op" (n := 6) (by decide +kernel)).mono (Nat.zero_le _) (Nat.le_refl _))).tup.mono (Nat.le_refl _) (by simp only [List.length_cons, List.length_nil, Ex.sz]; omega)
  | .call f a, n, ⟨h1, h2⟩, hd => by
    simp only [Ex.dp] at hd
    obtain ⟨m, rfl⟩ : ∃ m, n = m + 1 := ⟨n - 1, by omega⟩
    have A := h2.shw (n := m) (by omega)
    exact (((Shws.nil.cons A).cons ((shw_str (n := 10) h1 (by decide +kernel)).mono (Nat.zero_le _) (Nat.le_refl _))).cons ((shw_s1 "call" (n := 6) (by decide +kernel)).mono (Nat.zero_le _) (Nat.le_refl _))).tup.mono (Nat.le_refl _) (by simp only [List.length_cons, List.length_nil, Ex.sz]; omega)
  | .f1 w a, n, ⟨h1, h2⟩, hd => by
    simp only [Ex.dp] at hd
    obtain ⟨m, rfl⟩ : ∃ m, n = m + 1 := ⟨n - 1, by omega⟩
    have A := h2.shw (n := m) (by omega)
    exact ((Shws.nil.cons A).cons ((shw_str (n := 10) h1 (by decide +kernel)).mono (Nat.zero_le _) (Nat.le_refl _))).tup.mono (Nat.le_refl _) (by simp only [List.length_cons, List.length_nil, Ex.sz]; omega)
  | .f2 w a b, n, ⟨h1, h2, h3⟩, hd => by
    simp only [Ex.dp] at hd
    obtain ⟨m, rfl⟩ : ∃ m, n = m + 1 := ⟨n - 1, by omega⟩
    have A := h2.shw (n := m) (by omega)
    have B := h3.shw (n := m) (by omega)
    exact (((Shws.nil.cons B).cons A).cons ((shw_str (n := 10) h1 (by decide +kernel)).mono (Nat.zero_le _) (Nat.le_refl _))).tup.mono (Nat.le_refl _) (by simp only [List.length_cons, List.length_nil, Ex.sz]; omega)
  | .ite c a b, n, ⟨h1, h2, h3⟩, hd => by
    simp only [Ex.dp] at hd
    obtain ⟨m, rfl⟩ : ∃ m, n = m + 1 := ⟨n - 1, by omega⟩
    have C := h1.shw (n := m) (by omega)
    have A := h2.shw (n := m) (by omega)
    have B := h3.shw (n := m) (by omega)
    exact ((((Shws.nil.cons B).cons A).cons C).cons ((shw_s1 "if" (n := 6) (by decide +kernel)).mono (Nat.zero_le _) (Nat.le_refl _))).tup.mono (Nat.le_refl _) (by simp only [List.length_cons, List.length_nil, Ex.sz]; omega)
theorem Kd.shw : ∀ {k : Kd} {n : Nat}, k.dep ≤ n → Shw k.d n (20 * k.sz)
  | .num, n, hd => by
    have hd : 1 ≤ n := hd
    exact (Shws.nil.cons (shw_s1 "num" (n := 5) (by decide +kernel))).tup.mono hd (by decide)
  | .pair a b, n, hd => by
    simp only [Kd.dep] at hd
    obtain ⟨m, rfl⟩ : ∃ m, n = m + 1 := ⟨n - 1, by omega⟩
    have A := Kd.shw (k := a) (n := m) (by omega)
    have B := Kd.shw (k := b) (n := m) (by omega)
    exact (((Shws.nil.cons B).cons A).cons ((shw_s1 "pair" (n := 6) (by decide +kernel)).mono (Nat.zero_le _) (Nat.le_refl _))).tup.mono (Nat.le_refl _) (by simp only [List.length_cons, List.length_nil, Kd.sz]; omega)
  | .seq a, n, hd => by
    simp only [Kd.dep] at hd
    obtain ⟨m, rfl⟩ : ∃ m, n = m + 1 := ⟨n - 1, by omega⟩
    have A := Kd.shw (k := a) (n := m) (by omega)
    exact ((Shws.nil.cons A).cons ((shw_s1 "seq" (n := 5) (by decide +kernel)).mono (Nat.zero_le _) (Nat.le_refl _))).tup.mono (Nat.le_refl _) (by simp only [List.length_cons, List.length_nil, Kd.sz]; omega)
end K2

namespace K2
open PySem PySem.Spec PyProof.Rows L2
/-! ### the programs, right and wrong -/
theorem find_fn : ∀ {fs : List Fn} {x : Str} {p : Kd × Kd}, find (sg fs) x = some p → ∃ f ∈ fs, f.name = x ∧ p = (f.given, f.result)
  | [], _, _, h => by cases h
  | f :: fs, x, p, h => by
    by_cases c : f.name = x
    · refine ⟨f, List.mem_cons_self .., c, ?_⟩
      unfold find sg at h
      rw [List.map_cons, List.find?_cons_of_pos (by simpa using c)] at h
      exact (Option.some.inj h).symm
    · have h' : find (sg fs) x = some p := by
        unfold find sg at h ⊢
        rw [List.map_cons, List.find?_cons_of_neg (by simpa using c)] at h
        exact h
      obtain ⟨g, m, e⟩ := find_fn h'
      exact ⟨g, List.mem_cons_of_mem _ m, e⟩
structure Itm (f : Fn) : Prop where
  nice : f.body.nice
  sz : f.body.sz ≤ 17582
  dp : f.body.dp ≤ 30
  pr : f.param ∈ (["n", "v", "a"] : List Str)
  kd : f.given.dep ≤ 3 ∧ f.result.dep ≤ 5
  nm : f.name ∈ names7
theorem Itm.small {f : Fn} (h : Itm f) : f.given.sz ≤ 1000 ∧ f.result.sz ≤ 1000 ∧ f.name.length ≤ 900 := by
  have a := Kd.sz_dep f.given
  have b := Kd.sz_dep f.result
  have c : 2 ^ f.given.dep ≤ 2 ^ 3 := Nat.pow_le_pow_right (by decide) h.kd.1
  have d : 2 ^ f.result.dep ≤ 2 ^ 5 := Nat.pow_le_pow_right (by decide) h.kd.2
  exact ⟨by omega, by omega, short_of h.nm (by decide +kernel)⟩
def Fn.d (f : Fn) : PyData := .tuple [.str "function", .str f.name, .str f.param, f.given.d, f.result.d, f.body.d]
theorem FnAt.dp {K : PySem.W.Frag} {H : Hp} {f : Fn} {v : V} : FnAt H f v → Dp K H v f.d
  | ⟨a, u, w, b, e, h, x, y, z⟩ => by rw [e]; exact .tup (.inl (.inl h)) (.cons (.str _) (.cons (.str _) (.cons (.str _) (.cons x.dp (.cons y.dp (.cons z.dp .nil))))))
theorem FnsAt.dp {K : PySem.W.Frag} {H : Hp} : ∀ {fs : List Fn} {vs : List V}, FnsAt H fs vs → DpAll K H vs (fs.map Fn.d)
  | [], [], _ => .nil
  | _ :: _, _ :: _, ⟨a, b⟩ => .cons a.dp b.dp
  | [], _ :: _, h => h.elim
  | _ :: _, [], h => h.elim
theorem Itm.shw {f : Fn} (h : Itm f) : Shw f.d 31 900000 := by
  have a := Kd.sz_dep f.given
  have b := Kd.sz_dep f.result
  have c : 2 ^ f.given.dep ≤ 2 ^ 3 := Nat.pow_le_pow_right (by decide) h.kd.1
  have d : 2 ^ f.result.dep ≤ 2 ^ 5 := Nat.pow_le_pow_right (by decide) h.kd.2
  have e := h.sz
  have k1 := h.kd
  exact ((((((Shws.nil.cons (h.nice.shw h.dp)).cons (Kd.shw (k := f.result) (n := 30) (by omega))).cons (Kd.shw (k := f.given) (n := 30) (by omega))).cons ((shw_str (n := 5) h.pr (by decide +kernel)).mono (Nat.zero_le _) (Nat.le_refl _))).cons ((shw_str (n := 10) h.nm (by decide +kernel)).mono (Nat.zero_le _) (Nat.le_refl _))).cons ((shw_s1 "function" (n := 10) (by decide +kernel)).mono (Nat.zero_le _) (Nat.le_refl _))).tup.mono (Nat.le_refl _) (by simp only [List.length_cons, List.length_nil]; omega)
theorem itms_shw : ∀ {fs : List Fn}, (∀ f ∈ fs, Itm f) → Shws (fs.map Fn.d) 31 (fs.length * 900000)
  | [], _ => ⟨rfl, rfl, Nat.zero_le _, Nat.zero_le _⟩
  | f :: fs, h => by
    have A := (h f (List.mem_cons_self ..)).shw
    have B := itms_shw fun g m => h g (List.mem_cons_of_mem _ m)
    have C := B.cons A
    rw [List.length_cons, Nat.succ_mul, Nat.add_comm]
    exact C
/-- a list of right functions -/
structure Pg (L : List Fn) : Prop where
  it : ∀ f ∈ L, Itm f
  nd : (L.map (·.name)).Nodup
  well : ∀ f ∈ L, WellF (sg L) f
  no : ("nobody" : Str) ∉ L.map (·.name)
  so : fnSort ∈ L
  dn : fnDown ∈ L
  len : 5 ≤ L.length ∧ L.length ≤ 6
  tt : tot L ≤ 40000
  res : ∀ i f, 2 ≤ i → L[i]? = some f → ∀ S : Sg, (∀ x p, find (sg (L.take i)) x = some p → find S x = some p) → ty S (sing f.param f.given) f.body ≠ some (.seq f.result)
theorem Kd.seq_ne (k : Kd) : k ≠ .seq k := fun h => by
  have := congrArg Kd.sz h
  simp only [Kd.sz] at this
  omega
theorem turn_ne {S : Sg} {G : Gm} {o : Str} {n : Int} : ty S G (exTurn o n) ≠ some (.seq .num) := by
  intro h
  unfold exTurn at h
  rw [ty] at h
  split at h
  · split at h
    · rename_i k hk
      cases hk
      split at h <;> cases h
    · cases h
  · cases h
theorem base_itm : ∀ f ∈ base4, Itm f := by
  intro f hf
  simp only [base4, List.mem_cons, List.not_mem_nil, or_false] at hf
  rcases hf with rfl | rfl | rfl | rfl <;> exact ⟨by simp only [fnDown, fnSort, fnEven, fnOdd, exDown, exSort, exTurn, exPart, exSame, Ex.nice, InR]; (repeat' apply And.intro) <;> decide +kernel, by decide +kernel, by decide +kernel, by decide +kernel, by decide +kernel, by decide +kernel⟩
theorem tot_base : tot base4 ≤ 200 := by decide +kernel
theorem tot_le {fs : List Fn} {n : Nat} (h : ∀ f ∈ fs, f.body.sz ≤ n) : tot fs ≤ fs.length * n := by
  induction fs with
  | nil => exact Nat.zero_le _
  | cons f r ih =>
    show f.body.sz + tot r ≤ (r.length + 1) * n
    have a := h f (List.mem_cons_self ..)
    have b := ih fun g m => h g (List.mem_cons_of_mem _ m)
    rw [Nat.succ_mul]
    omega
theorem nb63 : NB 6 3 = 17552 := by decide +kernel
theorem db63 : DB 6 3 = 24 := by decide +kernel
theorem sing_vars {x : Str} {k : Kd} (h : x ∈ (["n", "v", "a"] : List Str)) : ∀ y, (sing x k) y ≠ none → y ∈ vars_ := fun y hy => by
  unfold sing Gm.put at hy
  by_cases c : y = x
  · rw [c]
    have : (["n", "v", "a"] : List Str).all (fun y => decide (y ∈ vars_)) = true := by decide +kernel
    exact of_decide_eq_true (List.all_eq_true.mp this x h)
  · rw [if_neg c] at hy; exact absurd rfl hy
theorem names_of {n : Nat} (h : n ≤ 2) : ∀ x ∈ base4.map (·.name) ++ (List.range n).map fname, x ∈ names7 ∧ x ≠ "nobody" := by
  match n, h with
  | 0, _ => decide +kernel
  | 1, _ => decide +kernel
  | 2, _ => decide +kernel
theorem pg_of {fs : List Fn} (h : PgOk 6 3 fs) (l1 : 1 ≤ fs.length) (l2 : fs.length ≤ 2) : Pg (base4 ++ fs) := by
  have nms : (base4 ++ fs).map (·.name) = base4.map (·.name) ++ (List.range fs.length).map fname := by rw [List.map_append, h.nm]
  have nm7 : ∀ f ∈ base4 ++ fs, f.name ∈ names7 ∧ f.name ≠ "nobody" := fun f m => names_of l2 f.name (by rw [← nms]; exact List.mem_map_of_mem m)
  have sg7 : ∀ x p, find (sg (base4 ++ fs)) x = some p → x ∈ names7 := fun x p e => by
    obtain ⟨f, m, rfl, _⟩ := find_fn e
    exact (nm7 f m).1
  have it : ∀ f ∈ base4 ++ fs, Itm f := fun f m => by
    rcases List.mem_append.mp m with m' | m'
    · exact base_itm f m'
    · have hp := h.par f m'
      have hs := h.sz f m'
      rw [nb63, db63] at hs
      have hd := h.ok.dp f m
      have pr : f.param ∈ (["n", "v", "a"] : List Str) := by rw [hp]; decide +kernel
      exact ⟨nice_of sg7 f.body _ _ (h.well f m) (by omega) (sing_vars pr), by omega, Nat.le_trans f.body.dp_le (by omega), pr, by omega, (nm7 f m).1⟩
  refine ⟨it, h.ok.nd, h.well, fun z => ?_, List.mem_append_left _ (by simp [base4]), List.mem_append_left _ (by simp [base4]), ?_, ?_, fun i f hi he S hS => ?_⟩
  · obtain ⟨f, m, e⟩ := List.mem_map.mp z
    exact (nm7 f m).2 e
  · rw [List.length_append]; show 5 ≤ 4 + fs.length ∧ 4 + fs.length ≤ 6; omega
  · rw [tot_app]
    have a := tot_base
    have b := tot_le (n := 17552) fun f m => by have := (h.sz f m).1; rw [nb63] at this; exact this
    have c : fs.length * 17552 ≤ 2 * 17552 := Nat.mul_le_mul_right _ l2
    omega
  · by_cases c : i < 4
    · rw [List.getElem?_append_left (by show i < 4; exact c)] at he
      rcases (show i = 2 ∨ i = 3 by omega) with rfl | rfl
      · obtain rfl : fnEven = f := Option.some.inj he
        exact turn_ne
      · obtain rfl : fnOdd = f := Option.some.inj he
        exact turn_ne
    · have e4 : base4.length = 4 := rfl
      rw [List.getElem?_append_right (by rw [e4]; omega), e4] at he
      have t := h.pre _ _ he
      have e5 : (base4 ++ fs).take i = base4 ++ fs.take (i - 4) := by rw [List.take_append, e4, List.take_of_length_le (by rw [e4]; omega)]
      rw [e5] at hS
      rw [ty_sg hS t]
      exact fun z => Kd.seq_ne _ (Option.some.inj z)
theorem Pg.sx {L : List Fn} (h : Pg L) : Sx (sg L) := ⟨by
    cases e : find (sg L) "nobody" with
    | none => rfl
    | some p =>
      obtain ⟨f, m, e1, _⟩ := find_fn e
      exact absurd (List.mem_map.mpr ⟨f, m, e1⟩) h.no, find_sg h.nd h.so, find_sg h.nd h.dn⟩
theorem at_split {α : Type} {L : List α} {i : Nat} {x : α} (h : L[i]? = some x) : L = L.take i ++ x :: L.drop (i + 1) := by
  obtain ⟨hi, e⟩ := List.getElem?_eq_some_iff.mp h
  rw [← e, List.getElem_cons_drop hi, List.take_append_drop]
theorem pg_chk {L : List Fn} (h : Pg L) : ChkIn L := chk_of (by have := h.len; omega) (fun f m => (h.it f m).small) (by have := h.tt; omega) fun f m => (h.it f m).nice
theorem pg_wt {L : List Fn} (h : Pg L) : WT L := ⟨h.nd, h.well⟩
/-- what stands beside one item, and the one put in its place -/
structure Brk (L : List Fn) : Prop where
  it : ∀ f ∈ L, Itm f
  chk : ChkIn L
  wt : ¬ WT L
  len : L.length ≤ 7
theorem itm_swap {L : List Fn} (h : Pg L) {i : Nat} {f g : Fn} (hf : L[i]? = some f) (hg : Itm g) : (∀ x ∈ L.take i ++ g :: L.drop (i + 1), Itm x) ∧ (L.take i ++ g :: L.drop (i + 1)).length = L.length ∧ tot (L.take i ++ g :: L.drop (i + 1)) + f.body.sz = tot L + g.body.sz := by
  refine ⟨fun x m => ?_, ?_, ?_⟩
  · rcases List.mem_append.mp m with m | m
    · exact h.it x (List.mem_of_mem_take m)
    · rcases List.mem_cons.mp m with m | m
      · rw [m]; exact hg
      · exact h.it x (List.mem_of_mem_drop m)
  · have e := congrArg List.length (at_split hf)
    rw [List.length_append, List.length_cons] at e ⊢
    omega
  · have e := congrArg tot (at_split hf)
    rw [tot_app] at e ⊢
    have e2 : tot (f :: L.drop (i + 1)) = f.body.sz + tot (L.drop (i + 1)) := rfl
    have e3 : tot (g :: L.drop (i + 1)) = g.body.sz + tot (L.drop (i + 1)) := rfl
    omega
theorem wraps_sz {b good e : Ex} (hb : b ∈ badRows) (he : e ∈ wraps b good) : e.sz ≤ good.sz + 30 ∧ e.dp ≤ max 10 good.dp + 3 := by
  obtain ⟨_, _, _, b4, b5⟩ := bad_ok b hb
  have b6 := b.dp_le
  simp only [wraps, List.mem_cons, List.not_mem_nil, or_false] at he
  rcases he with rfl | rfl | rfl <;> simp only [Ex.sz, Ex.dp, exS] <;> omega
theorem sg_swap {L : List Fn} {i : Nat} {f g : Fn} (hf : L[i]? = some f) (e : (g.name, g.given, g.result) = (f.name, f.given, f.result)) : sg (L.take i ++ g :: L.drop (i + 1)) = sg L := by
  have h := congrArg sg (at_split hf)
  rw [h]
  unfold sg
  rw [List.map_append, List.map_append, List.map_cons, List.map_cons, e]
theorem brk_body {L : List Fn} (h : Pg L) {i : Nat} {f : Fn} (hf : L[i]? = some f) {b e : Ex} (hb : b ∈ badRows) (he : e ∈ wraps b f.body) (hz : f.body.sz ≤ 17552) (hd : f.body.dp ≤ 27) : Brk (L.take i ++ { f with body := e } :: L.drop (i + 1)) := by
  have fm := List.mem_of_getElem? hf
  have F := h.it f fm
  obtain ⟨w1, w2⟩ := wraps_sz hb he
  have G : Itm { f with body := e } := ⟨wraps_nice hb he F.nice, by show e.sz ≤ 17582; omega, by show e.dp ≤ 30; omega, F.pr, F.kd, F.nm⟩
  obtain ⟨I, ln, tt⟩ := itm_swap h hf G
  have t1 := h.tt
  have tt : tot (L.take i ++ { f with body := e } :: L.drop (i + 1)) + f.body.sz = tot L + e.sz := tt
  have t3 := h.len
  refine ⟨I, chk_of (by omega) (fun f m => (I f m).small) (by omega) fun f m => (I f m).nice, fun z => ?_, by omega⟩
  have w := z.2 { f with body := e } (List.mem_append_right _ (List.mem_cons_self ..))
  unfold WellF at w
  rw [sg_swap (g := { f with body := e }) hf rfl] at w
  have n1 : sing f.param f.given "nobody" = none := if_neg fun z => by
    have : (["n", "v", "a"] : List Str).all (fun y => decide (¬ ("nobody" : Str) = y)) = true := by decide +kernel
    exact of_decide_eq_true (List.all_eq_true.mp this _ F.pr) z
  have n2 : sing f.param f.given "q" = none := if_neg fun z => by
    have : (["n", "v", "a"] : List Str).all (fun y => decide (¬ ("q" : Str) = y)) = true := by decide +kernel
    exact of_decide_eq_true (List.all_eq_true.mp this _ F.pr) z
  have := wraps_ty (G := sing f.param f.given) h.sx n1 n2 hb he
  rw [this] at w
  cases w
theorem find_take {A B : List Fn} {x : Str} {p : Kd × Kd} (h : find (sg A) x = some p) : find (sg (A ++ B)) x = some p := by
  unfold sg at *
  rw [List.map_append]
  exact find_app h
theorem brk_kind {L : List Fn} (h : Pg L) {i : Nat} {f : Fn} (hi : 2 ≤ i) (hf : L[i]? = some f) (hr : f.result.dep ≤ 4) : Brk (L.take i ++ { f with result := .seq f.result } :: L.drop (i + 1)) := by
  have fm := List.mem_of_getElem? hf
  have F := h.it f fm
  have G : Itm { f with result := .seq f.result } := ⟨F.nice, F.sz, F.dp, F.pr, ⟨F.kd.1, by show f.result.dep + 1 ≤ 5; omega⟩, F.nm⟩
  obtain ⟨I, ln, tt⟩ := itm_swap h hf G
  have t1 := h.tt
  have t2 := F.sz
  have t3 := h.len
  have tt : tot (L.take i ++ { f with result := .seq f.result } :: L.drop (i + 1)) + f.body.sz = tot L + f.body.sz := tt
  refine ⟨I, chk_of (by omega) (fun f m => (I f m).small) (by omega) fun f m => (I f m).nice, fun z => ?_, by omega⟩
  have w := z.2 { f with result := .seq f.result } (List.mem_append_right _ (List.mem_cons_self ..))
  exact h.res i f hi hf _ (fun x p e => find_take e) w
def fnTwice (x : Str) : Fn := ⟨x, "n", .num, .num, .num 1⟩
theorem brk_name {L : List Fn} (h : Pg L) {f : Fn} (hf : f ∈ L) : Brk (L ++ [fnTwice f.name]) := by
  have F := h.it f hf
  have G : Itm (fnTwice f.name) := ⟨by show InR 1; unfold InR; decide, by show 1 ≤ 17582; decide, by show 1 ≤ 30; decide, by show ("n" : Str) ∈ _; decide +kernel, by show 1 ≤ 3 ∧ 1 ≤ 5; decide, F.nm⟩
  have I : ∀ x ∈ L ++ [fnTwice f.name], Itm x := fun x m => (List.mem_append.mp m).elim (h.it x) fun m => by rw [List.mem_singleton.mp m]; exact G
  have t1 := h.tt
  have t3 := h.len
  have t4 : tot [fnTwice f.name] = 1 := rfl
  refine ⟨I, chk_of (by rw [List.length_append, List.length_singleton]; omega) (fun f m => (I f m).small) (by rw [tot_app]; omega) fun f m => (I f m).nice, fun z => ?_, by rw [List.length_append, List.length_singleton]; omega⟩
  have w := z.1
  rw [List.map_append, List.nodup_append] at w
  exact w.2.2 f.name (List.mem_map_of_mem hf) f.name (List.mem_singleton.mpr rfl) rfl
/-! ### lists of functions, cut -/
theorem FnsAt.take {H : Hp} : ∀ {fs : List Fn} {vs : List V} (n : Nat), FnsAt H fs vs → FnsAt H (fs.take n) (vs.take n)
  | [], [], n, _ => by cases n <;> exact trivial
  | _ :: _, _ :: _, 0, _ => trivial
  | _ :: _, _ :: _, n + 1, ⟨a, b⟩ => ⟨a, b.take n⟩
  | [], _ :: _, _, h => h.elim
  | _ :: _, [], _, h => h.elim
theorem FnsAt.drop {H : Hp} : ∀ {fs : List Fn} {vs : List V} (n : Nat), FnsAt H fs vs → FnsAt H (fs.drop n) (vs.drop n)
  | [], [], n, _ => by cases n <;> exact trivial
  | _ :: _, _ :: _, 0, h => h
  | _ :: _, _ :: _, n + 1, ⟨a, b⟩ => b.drop n
  | [], _ :: _, _, h => h.elim
  | _ :: _, [], _, h => h.elim
theorem FnsAt.app {H : Hp} {gs : List Fn} {us : List V} (g : FnsAt H gs us) : ∀ {fs : List Fn} {vs : List V}, FnsAt H fs vs → FnsAt H (fs ++ gs) (vs ++ us)
  | [], [], _ => g
  | _ :: _, _ :: _, ⟨a, b⟩ => ⟨a, FnsAt.app g b⟩
  | [], _ :: _, h => h.elim
  | _ :: _, [], h => h.elim
/-! ### names that are free -/
theorem fv_of {S : Sg} {x : Str} {j : Kd} {e : Ex} {k : Kd} (h : ty S (sing x j) e = some k) : ∀ y ∈ e.fv, y = x := fun y hy => by
  have := (ty_good e _ _ h).2.2 y hy
  unfold sing Gm.put at this
  by_cases c : y = x
  · exact c
  · rw [if_neg c] at this; cases this
def exIn (e : Ex) : Ex := .bnd false "y" (.var "w") (.bnd true "a" (.var "y") e)
def exPr (e : Ex) : Ex := .f2 "pair" (exIn e) (.var "a")
structure Few (e : Ex) : Prop where
  wf : e.wf
  sz : e.sz ≤ 200000
  dp : e.dep ≤ 40
  fv : ∀ y ∈ e.fv, y ∈ vars_
theorem met_few {xs : List Str} (h : ∀ y ∈ xs, y ∈ vars_) : (TX.met xs).length ≤ 13 :=
  Nat.le_trans (met_le h) (Nat.le_trans (TX.met_length _) (by decide +kernel))
theorem few_in {e : Ex} (h : Few e) (hd : e.dep ≤ 30) (hz : e.sz ≤ 100000) : Few (exIn e) ∧ Few (exPr e) := by
  have fin : ∀ y ∈ (exIn e).fv, y ∈ vars_ := fun y hy => by
    rcases List.mem_append.mp hy with hy | hy
    · rw [List.mem_singleton.mp hy]; decide +kernel
    · obtain ⟨m, _⟩ := List.mem_filter.mp hy
      rcases List.mem_append.mp m with m | m
      · rw [List.mem_singleton.mp m]; decide +kernel
      · exact h.fv y (List.mem_filter.mp m).1
  have z := h.sz
  have ny : nmw "y" = 0 := nmw_of (by decide +kernel)
  have na : nmw "a" = 0 := nmw_of (by decide +kernel)
  refine ⟨⟨⟨trivial, trivial, h.wf⟩, by simp only [exIn, Ex.sz]; omega, by simp only [exIn, Ex.dep, ny, na]; omega, fin⟩, ⟨⟨by decide +kernel, ⟨trivial, trivial, h.wf⟩, trivial⟩, by simp only [exPr, exIn, Ex.sz]; omega, by simp only [exPr, exIn, Ex.dep, ny, na]; omega, fun y hy => ?_⟩⟩
  rcases List.mem_append.mp hy with hy | hy
  · exact fin y hy
  · rw [List.mem_singleton.mp hy]; decide +kernel
def tsd (ys : List Str) : PyData := .list (ys.map .str)
theorem tsd_dp {K : PySem.W.Frag} {H : Hp} {p : Addr} {ys : List Str} (h : H p = some (.lst (ys.map V.str))) : Dp K H (.ref p) (tsd ys) := by
  refine .lst (.inl (.inl h)) ?_
  clear h
  induction ys with
  | nil => exact .nil
  | cons y r ih => exact .cons (.str _) ih
theorem tsd_lay {ys : List Str} (h : ∀ y ∈ ys, y ∈ vars_) : (tsd ys).canLay0 = true := by
  show PyData.canLayAll0 (ys.map .str) = true
  induction ys with
  | nil => rfl
  | cons y r ih =>
    show (PyData.strOk y && PyData.canLayAll0 (r.map .str)) = true
    rw [ih fun z m => h z (List.mem_cons_of_mem _ m)]
    have : vars_.all (fun y => PyData.strOk y) = true := by decide +kernel
    rw [List.all_eq_true.mp this y (h y (List.mem_cons_self ..))]
    rfl
theorem tsd_shaped {ys : List Str} (h : ∀ y ∈ ys, y ∈ vars_) : SeqAt.shaped (tsd ys) = true := by
  unfold SeqAt.shaped
  have d : (tsd ys).depth ≤ 64 := by
    show PyData.depthAll (ys.map .str) + 1 ≤ 64
    have : PyData.depthAll (ys.map .str) = 0 := by
      clear h
      induction ys with
      | nil => rfl
      | cons y r ih => show max 0 (PyData.depthAll (r.map .str)) = 0; rw [ih]; rfl
    omega
  rw [tsd_lay h, decide_eq_true d]
  rfl
end K2

namespace K2
open PySem PySem.Spec PyProof.Rows L2
structure ZAd where
  law_bad : Addr × FuncData
  law : Addr × FuncData
structure ZTxt (w : World) (K : PySem.W.Frag) (mg : Str → Option Value) (ga : GAd) (a : TAd) (r : RAd) (b : BAd) (pa : PAd) (l : LAd) (z : ZAd) : Prop where
  G : GTxt K mg ga
  L : LTxt w K mg a r b pa l
  law_bad : DefAt K mg "_law_bad" s_law_bad ["state", "good"] z.law_bad
  law : DefAt K mg "law" s_law ["script"] z.law
/-- what the law knows of its program -/
structure Pz (L : List Fn) : Prop where
  pg : Pg L
  bd : ∀ f ∈ L, f.body.dep ≤ 27 ∧ f.body.sz ≤ 17552 ∧ f.result.dep ≤ 4
theorem base_bd : ∀ f ∈ base4, f.body.dep ≤ 27 ∧ f.body.sz ≤ 17552 ∧ f.result.dep ≤ 4 := by
  intro f hf
  simp only [base4, List.mem_cons, List.not_mem_nil, or_false] at hf
  rcases hf with rfl | rfl | rfl | rfl <;> decide +kernel
theorem pz_of {fs : List Fn} (h : PgOk 6 3 fs) (l1 : 1 ≤ fs.length) (l2 : fs.length ≤ 2) : Pz (base4 ++ fs) := ⟨pg_of h l1 l2, fun f m => by
  rcases List.mem_append.mp m with m' | m'
  · exact base_bd f m'
  · have a := h.sz f m'
    rw [nb63, db63] at a
    have b := h.ok.dp f m
    omega⟩
def progs (L M : List Fn) : PyData := .list [.list (L.map Fn.d), .list (M.map Fn.d)]
theorem progs_shw {L M : List Fn} (hl : ∀ f ∈ L, Itm f) (hm : ∀ f ∈ M, Itm f) (l : L.length ≤ 7) (m : M.length ≤ 7) : Shw (progs L M) 40 16000000 := by
  have A := (itms_shw hl).lst
  have B := (itms_shw hm).lst
  have C := ((Shws.nil.cons B).cons A).lst
  refine Shw.mono C (n' := 40) (m' := 16000000) (by omega) ?_
  rw [List.length_map, List.length_map]
  rw [List.length_cons, List.length_cons, List.length_nil]
  clear A B C
  generalize L.length = x at *
  generalize M.length = y at *
  clear hl hm
  omega
theorem progs_dp {K : PySem.W.Frag} {H : Hp} {p q l : Addr} {L M : List Fn} {us ws : List V} (hl : H l = some (.lst [.ref p, .ref q])) (hp : H p = some (.lst us)) (hq : H q = some (.lst ws)) (fp : FnsAt H L us) (fq : FnsAt H M ws) : Dp K H (.ref l) (progs L M) :=
  .lst (SqL.of hl) (.cons (.lst (SqL.of hp) fp.dp) (.cons (.lst (SqL.of hq) fq.dp) .nil))
theorem cut5 {x0 x1 x2 x3 x4 x5 : V} : cutV [x0, x1, x2, x3, x4, x5] none (some 5) = [x0, x1, x2, x3, x4] := rfl
theorem cut4 {x0 x1 x2 x3 x4 x5 : V} : cutV [x0, x1, x2, x3, x4, x5] none (some 4) = [x0, x1, x2, x3] := rfl
theorem cut_to (us : List V) {i : Nat} (h : i ≤ us.length) : cutV us none (some (i : Int)) = us.take i := by
  have e1 : HT.sIx us.length 0 none = 0 := rfl
  have e2 : HT.sIx us.length us.length (some (i : Int)) = min i us.length := HT.sIx_nat _ _ i
  unfold cutV
  rw [e1, e2, List.drop_zero, Nat.min_eq_left h, Nat.sub_zero]
theorem cut_from (us : List V) {i : Nat} (h : i < us.length) : cutV us (some ((i : Int) + 1)) none = us.drop (i + 1) := by
  have e1 : HT.sIx us.length us.length none = us.length := rfl
  have e2 : HT.sIx us.length 0 (some ((i : Int) + 1)) = i + 1 := by
    have := HT.sIx_nat us.length 0 (i + 1)
    rw [Nat.min_eq_left (by omega)] at this
    exact this
  unfold cutV
  rw [e1, e2]
  exact List.take_of_length_le (by rw [List.length_drop]; omega)
section
variable {P : Program} {w : World} {K : PySem.W.Frag} {mg : Str → Option Value} {base : Heap} {ga : GAd} {a : TAd} {r : RAd} {b : BAd} {pa : PAd} {l : LAd} {z : ZAd}
theorem cast_int {Q : VK} {x y : Int} {H : Hp} (e : x = y) (q : Q (.int y) H) : Q (.int x) H := e ▸ q
theorem passF {X : Cx} : Passes (L2.CX P w) X (fun _ _ _ => False) := fun _ _ _ _ _ _ _ y => by
  obtain ⟨_, _, _, _, _, _, _, _, _, _, _, _, q⟩ := y
  exact q.elim
def spLaw (K : PySem.W.Frag) : Sp := fun vs H Q _ => ∃ (p : Addr) (ns : List Int), vs = [.ref p] ∧ SqL K H p (ns.map V.int) ∧ ns.length ≤ 63 ∧ ∀ H', Q (.bl true) H'
theorem rest9 (T : ZTxt w K mg ga a r b pa l z) {cdv : Value} {A : Around} {outer : List Env} {s : Shared} {H0 : Hp} {E : XK} {Q : VK} (hg : (A.deeper (envOfC "law" (defScope s_law) s.heap.objs.size z.law.1 cdv)).guards = some []) (hr : Room 44 (A.deeper (envOfC "law" (defScope s_law) s.heap.objs.size z.law.1 cdv))) (q : ∀ H', Q (.bl true) H') :
    ∃ t, PSs (cxOf CX0 P w K mg base ["script", "state", "program", "at", "item", "bad", "choice", "broken", "before", "inner", "e"] "law" (defScope s_law) z.law.1 cdv A outer s H0 E).nox ((defBody s_law).drop 9) t ∧ ∀ (v0 v1 v3 v5 v6 : Option V) (pp pb : Addr) (L M : List Fn) (us ws : List V) (it : V) (f : Fn) (H : Hp), H pp = some (.lst us) → H pb = some (.lst ws) → FnsAt H L us → FnsAt H M ws → Pz L → Brk M → f ∈ L → FnAt H f it →
      t { nx := fun _ H' => Q .non H', rt := Q } [v0, v1, some (.ref pp), v3, some it, v5, v6, some (.ref pb), none, none, none] H := by
  have nd := sc_law.nd
  have G_law_told := ok_law_told (P := P) (base := base) T.L
  have G_check := ok_check (P := P) (base := base) T.L.B T.L.PT_
  have G_free_names := ok_free_names (P := P) (w := w) (base := base) T.L.PT_
  have G_law_free := ok_law_free (P := P) (w := w) (base := base) T.L.PT_ 40
  refine ⟨_, (pss_cons (ps_set (i := 8) nd rfl (Or.inl rfl) (pe_callB (GX.call_reprD hg hr.units) (by rfl) T.L.PT_.repr (by decide +kernel) (pa_cons (pe_lst (pa_cons (pv 2) (pa_cons (pv 7) pa_nil))) pa_nil)))
  (pss_cons (ps_if (PW.pt (pw_or (pt_cmpR op_ne (pe_call G_law_told (hr.mono (by omega)) rfl T.L.law_told.g T.L.law_told.F.kp T.L.law_told.b .nil pass0 (pa_cons (pv 2) pa_nil)) pe_int (nomark _)) (pw_or (pt_cmpR op_ne (pe_call G_law_told (hr.mono (by omega)) rfl T.L.law_told.g T.L.law_told.F.kp T.L.law_told.b .nil pass0 (pa_cons (pv 7) pa_nil)) pe_int (nomark _)) (pw_or1 (pt_cmpR op_notN (pe_call G_check (hr.mono (by omega)) rfl T.L.PT_.check.g T.L.PT_.check.F.kp T.L.PT_.check.b .nil passF (pa_cons (pv 2) pa_nil)) pe_non (nomark _)))))) (pss_one (ps_ret pe_bl)) pss_nil)
  (pss_cons (ps_set (i := 9) nd rfl (Or.inl rfl) (pe_tup (pa_cons pe_str (pa_cons pe_str (pa_cons (pe_tup (pa_cons pe_str (pa_cons pe_str pa_nil))) (pa_cons (pe_tup (pa_cons pe_str (pa_cons pe_str (pa_cons (pe_tup (pa_cons pe_str (pa_cons pe_str pa_nil))) (pa_cons (pe_ix ix_tup (pv 4) pe_int (fun _ _ => rfl)) pa_nil))))) pa_nil))))))
  (pss_cons (ps_for PassesOwn.never rfl (pi_list (pe_lst (pa_cons (pe_ix ix_tup (pv 4) pe_int (fun _ _ => rfl)) (pa_cons (pv 9) (pa_cons (pe_tup (pa_cons pe_str (pa_cons (pv 9) (pa_cons (pe_tup (pa_cons pe_str (pa_cons pe_str pa_nil))) pa_nil)))) pa_nil))))) (pg_name (i := 10) nd rfl (Or.inl rfl)) (pss_one (ps_if (pt_cmpR (op_neD hr.units) (pe_call G_free_names (hr.mono (by omega)) rfl T.L.PT_.free_names.g T.L.PT_.free_names.F.kp T.L.PT_.free_names.b .nil pass0 (pa_cons (pv 10) pa_nil)) (pe_call G_law_free (hr.mono (by omega)) rfl T.L.PT_.law_free.g T.L.PT_.law_free.F.kp T.L.PT_.law_free.b .nil pass0 (pa_cons (pv 10) pa_nil)) (nomark _)) (pss_one (ps_ret pe_bl)) pss_nil)))
  (pss_one (ps_ret (pe_cmpR op_eq (pe_callB (GX.call_reprD hg hr.units) (by rfl) T.L.PT_.repr (by decide +kernel) (pa_cons (pe_lst (pa_cons (pv 2) (pa_cons (pv 7) pa_nil))) pa_nil)) (pv 8) (nomark _)))))))), ?_⟩
  intro v0 v1 v3 v5 v6 pp pb L M us ws it f H hp hb fp fb PZ BK fm fa
  have PG := PZ.pg
  have pl := PG.len
  refine ⟨_, rfl, _, rfl, (by show 2 ≤ sizeLine; decide), fun l1 hl1 => ?_⟩
  have s1 := same_new hl1 (.lst [V.ref pp, V.ref pb])
  have SH := progs_shw PG.it BK.it (by omega) BK.len
  refine ⟨_, _, rfl, progs_dp upd_same (s1 _ _ hp) (s1 _ _ hb) (fp.kt (Kt.of s1)) (fb.kt (Kt.of s1)), SH.ok, SH.nd, Nat.le_trans SH.dp (by decide), Nat.le_trans SH.ln (by decide), ?_⟩
  refine ⟨_, rfl, pp, L, us, rfl, s1 _ _ hp, fp.kt (Kt.of s1), pg_chk PG, fun _ H2 s2 => ?_, fun n => absurd (pg_wt PG) n⟩
  have s02 := s1.trans s2
  refine ⟨rfl, _, rfl, ?_⟩
  refine ifF (by decide) ?_
  refine ⟨_, rfl, pb, M, ws, rfl, s02 _ _ hb, fb.kt (Kt.of s02), BK.chk, fun n => absurd n BK.wt, fun _ H3 s3 => ?_⟩
  have s03 := s02.trans s3
  refine ⟨rfl, _, rfl, ?_⟩
  refine ifF (by decide) ?_
  refine ⟨_, rfl, pp, L, us, rfl, s03 _ _ hp, fp.kt (Kt.of s03), pg_chk PG, fun _ H4 s4 => ?_, fun n => absurd (pg_wt PG) n⟩
  have s04 := s03.trans s4
  refine ⟨rfl, _, rfl, ?_⟩
  refine ifF (by decide) ?_
  -- inner
  obtain ⟨ia, u1, u2, u3, rfl, hia, k1, k2, eb⟩ := fa
  refine ⟨(by show 2 ≤ sizeLine; decide), fun p5 hp5 => ?_⟩
  have s5 := same_new hp5 (.tup [.str "var", .str "w"])
  refine ⟨(by show 2 ≤ sizeLine; decide), fun p6 hp6 => ?_⟩
  have s6 := same_new hp6 (.tup [.str "var", .str "y"])
  have s06 := (s04.trans s5).trans s6
  refine ⟨_, rfl, ia, _, _, _, rfl, rfl, .inl (.inl (s06 _ _ hia)), atI_nat (j := 5) rfl, ?_⟩
  refine ⟨(by show 4 ≤ sizeLine; decide), fun p7 hp7 => ?_⟩
  have e7 := mkE (x := "a") hp7 (mkVar (H := upd H4 p5 (.tup [.str "var", .str "w"])) (p := p6) (x := "y")) (eb.kt (Kt.of s06))
  have s7 := same_new hp7 (.tup [.str "each", .str "a", .ref p6, u3])
  refine ⟨(by show 4 ≤ sizeLine; decide), fun p8 hp8 => ?_⟩
  have e8 := mkL (x := "y") hp8 ((mkVar (H := H4) (p := p5) (x := "w")).kt (Kt.of (s6.trans s7))) e7
  have s8 := same_new hp8 (.tup [.str "let", .str "y", .ref p5, .ref p7])
  have s08 := (s06.trans s7).trans s8
  -- the three
  refine ⟨_, rfl, ia, _, _, _, rfl, rfl, .inl (.inl (s08 _ _ hia)), atI_nat (j := 5) rfl, ?_⟩
  refine ⟨_, rfl, _, rfl, (by show 2 ≤ sizeLine; decide), fun p9 hp9 => ?_⟩
  have s9 := same_new hp9 (.tup [.str "var", .str "a"])
  refine ⟨(by show 3 ≤ sizeLine; decide), fun pA hpA => ?_⟩
  have eA := mk2 (w := "pair") hpA (e8.kt (Kt.of s9)) (mkVar (H := upd (upd (upd (upd H4 p5 (.tup [.str "var", .str "w"])) p6 (.tup [.str "var", .str "y"])) p7 (.tup [.str "each", .str "a", .ref p6, u3])) p8 (.tup [.str "let", .str "y", .ref p5, .ref p7])) (p := p9) (x := "a"))
  have sA := same_new hpA (.tup [.str "pair", .ref p8, .ref p9])
  refine ⟨(by show 3 ≤ sizeLine; decide), fun pB hpB => ?_⟩
  have sB := same_new hpB (.lst [u3, .ref p8, .ref pA])
  have s0B := ((s08.trans s9).trans sA).trans sB
  have few : Few f.body := ⟨(PG.it f fm).nice.good.1, by have := (PZ.bd f fm).2.1; omega, by have := (PZ.bd f fm).1; omega, fun y hy => by
    rw [fv_of (PG.well f fm) y hy]
    have : (["n", "v", "a"] : List Str).all (fun y => decide (y ∈ vars_)) = true := by decide +kernel
    exact of_decide_eq_true (List.all_eq_true.mp this _ (PG.it f fm).pr)⟩
  have few2 := few_in few (by have := (PZ.bd f fm).1; omega) (by have := (PZ.bd f fm).2.1; omega)
  have three : ∀ (i : Nat) (y : V), [u3, .ref p8, .ref pA][i]? = some y → ∃ e, Few e ∧ ExAt (upd (upd (upd (upd (upd (upd (upd H4 p5 (.tup [.str "var", .str "w"])) p6 (.tup [.str "var", .str "y"])) p7 (.tup [.str "each", .str "a", .ref p6, u3])) p8 (.tup [.str "let", .str "y", .ref p5, .ref p7])) p9 (.tup [.str "var", .str "a"])) pA (.tup [.str "pair", .ref p8, .ref p9])) pB (.lst [u3, .ref p8, .ref pA])) e y := fun i y hy => by
    match i, hy with
    | 0, hy =>
      obtain rfl : u3 = y := Option.some.inj hy
      exact ⟨_, few, eb.kt (Kt.of s0B)⟩
    | 1, hy =>
      obtain rfl : V.ref p8 = y := Option.some.inj hy
      exact ⟨_, few2.1, e8.kt (Kt.of ((s9.trans sA).trans sB))⟩
    | 2, hy =>
      obtain rfl : V.ref pA = y := Option.some.inj hy
      exact ⟨_, few2.2, eA.kt (Kt.of sB)⟩
    | i + 3, hy => exact absurd hy (by simp)
  have hB2 : (upd (upd (upd (upd (upd (upd (upd H4 p5 (.tup [.str "var", .str "w"])) p6 (.tup [.str "var", .str "y"])) p7 (.tup [.str "each", .str "a", .ref p6, u3])) p8 (.tup [.str "let", .str "y", .ref p5, .ref p7])) p9 (.tup [.str "var", .str "a"])) pA (.tup [.str "pair", .ref p8, .ref p9])) pB (.lst [u3, .ref p8, .ref pA])) pB = some (.lst [u3, .ref p8, .ref pA]) := upd_same
  generalize (upd (upd (upd (upd (upd (upd (upd H4 p5 (.tup [.str "var", .str "w"])) p6 (.tup [.str "var", .str "y"])) p7 (.tup [.str "each", .str "a", .ref p6, u3])) p8 (.tup [.str "let", .str "y", .ref p5, .ref p7])) p9 (.tup [.str "var", .str "a"])) pA (.tup [.str "pair", .ref p8, .ref p9])) pB (.lst [u3, .ref p8, .ref pA])) = HB at three s0B hB2 ⊢
  refine ⟨pB, rfl, ⟨[u3, .ref p8, .ref pA], SqL.of hB2⟩, for_list (K := K) (a := pB) (xs := [u3, .ref p8, .ref pA]) (fun i σ H' => ∃ (v9 v10 : Option V), σ = [v0, v1, some (.ref pp), v3, some (.ref ia), v5, v6, some (.ref pb), some (.str (progs L M).shown), v9, v10] ∧ Same HB H') ⟨_, none, rfl, fun _ _ e => e⟩ (fun i σ H' _ h => ?_) ?_ ?_⟩
  · obtain ⟨_, _, _, s⟩ := h
    exact SqL.of (s _ _ hB2)
  · rintro i y σ H' hi ⟨v9, v10, rfl, sm⟩
    obtain ⟨e, fe, ae⟩ := three i y hi
    refine ⟨_, rfl, y, e, rfl, ae.kt (Kt.of sm), fe.wf, by have := fe.sz; omega, by have := met_few fe.fv; omega, fun Hx x1 ys1 sx n1 h1 pm1 so1 => ?_⟩
    refine ⟨_, rfl, y, e, rfl, ae.kt (Kt.of (sm.trans sx)), fe.wf, by have := fe.dp; omega, by have := met_few fe.fv; omega, fun Hy y1 ys2 sy n2 h2 pm2 so2 => ?_⟩
    obtain rfl : ys1 = ys2 := sorted_unique so1 so2 (pm1.trans pm2.symm)
    have ev : ∀ y ∈ ys1, y ∈ vars_ := fun y hy => fe.fv y (TX.met_mem.mp (pm1.mem_iff.mp hy))
    refine ⟨_, _, tsd_dp (sy _ _ h1), tsd_dp h2, tsd_shaped ev, tsd_shaped ev, _, rfl, ?_⟩
    refine ifF (by rw [SeqAt.eqv_refl _ (tsd_lay ev)]; rfl) ?_
    exact ⟨_, _, rfl, (sm.trans sx).trans sy⟩
  · rintro σ H' ⟨v9, v10, rfl, sm⟩
    have s0H := s0B.trans sm
    refine ⟨_, rfl, _, rfl, (by show 2 ≤ sizeLine; decide), fun l2 hl2 => ?_⟩
    have s2' := same_new hl2 (.lst [V.ref pp, V.ref pb])
    have sE := s0H.trans s2'
    refine ⟨_, _, rfl, progs_dp upd_same (sE _ _ hp) (sE _ _ hb) (fp.kt (Kt.of sE)) (fb.kt (Kt.of sE)), SH.ok, SH.nd, Nat.le_trans SH.dp (by decide), Nat.le_trans SH.ln (by decide), ?_⟩
    refine ⟨_, rfl, rfl, ?_⟩
    rw [decide_eq_true rfl]
    exact q _
theorem rest7 (T : ZTxt w K mg ga a r b pa l z) {cdv : Value} {A : Around} {outer : List Env} {s : Shared} {H0 : Hp} {E : XK} {Q : VK} (hg : (A.deeper (envOfC "law" (defScope s_law) s.heap.objs.size z.law.1 cdv)).guards = some []) (hr : Room 44 (A.deeper (envOfC "law" (defScope s_law) s.heap.objs.size z.law.1 cdv))) (q : ∀ H', Q (.bl true) H') :
    ∃ t, PSs (cxOf CX0 P w K mg base ["script", "state", "program", "at", "item", "bad", "choice", "broken", "before", "inner", "e"] "law" (defScope s_law) z.law.1 cdv A outer s H0 E).nox ((defBody s_law).drop 7) t ∧ ∀ (v0 : Option V) (st c pp : Addr) (L : List Fn) (us : List V) (i : Nat) (it vb : V) (f g : Fn) (ch : Int) (H : Hp), H pp = some (.lst us) → FnsAt H L us → Pz L → L[i]? = some f → us[i]? = some it → FnAt H f it → FnAt H g vb → Brk (L.take i ++ g :: L.drop (i + 1)) → StAt H st c → pp ≠ st → pp ≠ c →
      t { nx := fun _ H' => Q .non H', rt := Q } [v0, some (.ref st), some (.ref pp), some (.int (i : Int)), some it, some vb, some (.int ch), none, none, none, none] H := by
  have nd := sc_law.nd
  have G_law_pick := ok_law_pick (P := P) (w := w) (base := base) T.G
  obtain ⟨tC, hC, qC⟩ := rest9 (P := P) (base := base) T (cdv := cdv) (A := A) (outer := outer) (s := s) (H0 := H0) (E := E) (Q := Q) hg hr q
  refine ⟨_, (pss_cons (ps_set (i := 7) nd rfl (Or.inl rfl) (pe_op op_cat (pe_op op_cat (pe_slice sl_list (pv 2) po_none (po_some (pv 3))) (pe_lst (pa_cons (pv 5) pa_nil))) (pe_slice sl_list (pv 2) (po_some (pe_op op_add (pv 3) pe_int)) po_none)))
  (pss_cons (ps_if (pt_cmpR op_eq (pv 6) pe_int (nomark _)) (pss_one (ps_set (i := 7) nd rfl (Or.inl rfl) (pe_op op_cat (pv 2) (pe_lst (pa_cons (pe_tup (pa_cons pe_str (pa_cons (pe_ix ix_tup (pe_call G_law_pick (hr.mono (by omega)) rfl T.G.law_pick.g T.G.law_pick.F.kp T.G.law_pick.b .nil pass0 (pa_cons (pv 1) (pa_cons (pv 2) pa_nil))) pe_int (fun _ _ => rfl)) (pa_cons pe_str (pa_cons (pe_tup (pa_cons pe_str pa_nil)) (pa_cons (pe_tup (pa_cons pe_str pa_nil)) (pa_cons (pe_tup (pa_cons pe_str (pa_cons pe_int pa_nil))) pa_nil))))))) pa_nil))))) pss_nil)
  hC)), ?_⟩
  intro v0 st c pp L us i it vb f g ch H hp fp PZ hf hi fa ga' BK hSt n1 n2
  have PG := PZ.pg
  have pl := PG.len
  have ul := fp.len
  have il := (List.getElem?_eq_some_iff.mp hf).1
  have fm := List.mem_of_getElem? hf
  refine ⟨_, rfl, _, rfl, _, rfl, pp, us, rfl, SqL.of hp, fun d1 hd1 => ?_⟩
  rw [cut_to us (show i ≤ us.length by omega)]
  have s1 := same_new hd1 (.lst (us.take i))
  refine ⟨_, rfl, (by show 1 ≤ sizeLine; decide), fun d2 hd2 => ?_⟩
  have s2 := same_new hd2 (.lst [vb])
  refine ⟨d1, d2, us.take i, [vb], rfl, rfl, s2 _ _ upd_same, upd_same, by rw [List.length_take, List.length_singleton]; exact Nat.le_trans (show _ ≤ 1000 by omega) (by decide), fun d3 hd3 => ?_⟩
  have s3 := same_new hd3 (.lst (us.take i ++ [vb]))
  have s03 := (s1.trans s2).trans s3
  refine ⟨_, rfl, _, rfl, _, _, rfl, rfl, _, rfl, pp, us, rfl, SqL.of (s03 _ _ hp), fun d4 hd4 => ?_⟩
  rw [cut_from us (show i < us.length by omega)]
  have s4 := same_new hd4 (.lst (us.drop (i + 1)))
  refine ⟨d3, d4, us.take i ++ [vb], us.drop (i + 1), rfl, rfl, s4 _ _ upd_same, upd_same, by rw [List.length_append, List.length_take, List.length_singleton, List.length_drop]; exact Nat.le_trans (show _ ≤ 1000 by omega) (by decide), fun d5 hd5 => ?_⟩
  have s5 := same_new hd5 (.lst (us.take i ++ [vb] ++ us.drop (i + 1)))
  have s05 := (s03.trans s4).trans s5
  have hd5' : (upd (upd (upd (upd (upd H d1 (.lst (us.take i))) d2 (.lst [vb])) d3 (.lst (us.take i ++ [vb]))) d4 (.lst (us.drop (i + 1)))) d5 (.lst (us.take i ++ [vb] ++ us.drop (i + 1)))) d5 = some (.lst (us.take i ++ [vb] ++ us.drop (i + 1))) := upd_same
  generalize (upd (upd (upd (upd (upd H d1 (.lst (us.take i))) d2 (.lst [vb])) d3 (.lst (us.take i ++ [vb]))) d4 (.lst (us.drop (i + 1)))) d5 (.lst (us.take i ++ [vb] ++ us.drop (i + 1)))) = H5 at s05 hd5' ⊢
  clear s03 s1 s2 s3 s4 s5
  have k5 := Kt.of s05
  have fb : FnsAt H5 (L.take i ++ g :: L.drop (i + 1)) (us.take i ++ [vb] ++ us.drop (i + 1)) := by
    rw [List.append_assoc]
    exact FnsAt.app (gs := g :: L.drop (i + 1)) (us := vb :: us.drop (i + 1)) (show FnAt H5 g vb ∧ FnsAt H5 _ _ from ⟨ga'.kt k5, (fp.kt k5).drop (i + 1)⟩) ((fp.kt k5).take i)
  refine ⟨_, rfl, rfl, _, rfl, ?_⟩
  refine ite2 (fun _ => ?_) (fun _ => ?_)
  · have hSt5 := hSt.keep s05
    refine ⟨_, rfl, _, rfl, _, rfl, st, c, pp, us, rfl, hSt5, s05 _ _ hp, n1, n2, by omega, by omega, fun H6 x g6 hx => ?_⟩
    obtain ⟨j, hj⟩ := List.getElem?_of_mem hx
    have t6 := g6.kt hSt5
    obtain ⟨f2, hf2, fa2⟩ := ((fp.kt k5).kt t6).get hj
    obtain ⟨a2, w1, w2, w3, rfl, ha2, _, _, _⟩ := fa2
    refine ⟨a2, _, _, _, rfl, rfl, .inl (.inl ha2), atI_nat (j := 1) rfl, ?_⟩
    refine ⟨(by show 1 ≤ sizeLine; decide), fun p1 hp1 => ⟨(by show 1 ≤ sizeLine; decide), fun p2 hp2 => ⟨(by show 2 ≤ sizeLine; decide), fun p3 hp3 => ⟨(by show 6 ≤ sizeLine; decide), fun p4 hp4 => ⟨(by show 1 ≤ sizeLine; decide), fun p5 hp5 => ?_⟩⟩⟩⟩⟩
    have r1 := same_new hp1 (.tup [.str "num"])
    have r2 := same_new hp2 (.tup [.str "num"])
    have r3 := same_new hp3 (.tup [.str "num", .int 1])
    have r4 := same_new hp4 (.tup [.str "function", .str f2.name, .str "n", .ref p1, .ref p2, .ref p3])
    have r5 := same_new hp5 (.lst [V.ref p4])
    have r05 := (((r1.trans r2).trans r3).trans r4).trans r5
    have hp6 : H6 pp = some (.lst us) := g6.1 _ _ n1 n2 (s05 _ _ hp)
    refine ⟨pp, p5, us, [V.ref p4], rfl, rfl, r05 _ _ hp6, upd_same, by rw [List.length_singleton]; exact Nat.le_trans (show _ ≤ 1000 by omega) (by decide), fun p6 hp6' => ?_⟩
    have r6 := same_new hp6' (.lst (us ++ [V.ref p4]))
    have kn : Kt H _ := (k5.trans t6).trans (Kt.of (r05.trans r6))
    have tw : FnAt (upd (upd (upd (upd (upd (upd H6 p1 (.tup [.str "num"])) p2 (.tup [.str "num"])) p3 (.tup [.str "num", .int 1])) p4 (.tup [.str "function", .str f2.name, .str "n", .ref p1, .ref p2, .ref p3])) p5 (.lst [V.ref p4])) p6 (.lst (us ++ [V.ref p4]))) (fnTwice f2.name) (.ref p4) :=
      ⟨p4, _, _, _, rfl, r6 _ _ (r5 _ _ upd_same), ⟨p1, rfl, r6 _ _ (r5 _ _ (r4 _ _ (r3 _ _ (r2 _ _ upd_same))))⟩, ⟨p2, rfl, r6 _ _ (r5 _ _ (r4 _ _ (r3 _ _ upd_same)))⟩, ⟨p3, rfl, r6 _ _ (r5 _ _ (r4 _ _ upd_same))⟩⟩
    exact qC v0 _ _ _ _ pp p6 L (L ++ [fnTwice f2.name]) us (us ++ [V.ref p4]) it f _ ((r05.trans r6) _ _ hp6) upd_same (fp.kt kn) (FnsAt.snoc tw (fp.kt kn)) PZ (brk_name PG (List.mem_of_getElem? hf2)) fm (fa.kt kn)
  · exact qC v0 _ _ _ _ pp d5 L _ us _ it f H5 (s05 _ _ hp) hd5' (fp.kt k5) fb PZ BK fm (fa.kt k5)
theorem ok_law (T : ZTxt w K mg ga a r b pa l z) : GX.FnG P w K mg base CX0 45 z.law.1 z.law.2 ["script"] (spLaw K) := by
  refine GX.fnG T.law.F sc_law (fun vs H Q E h => ?_) (fun cdv A outer s H vs Q E hg hr h => ?_)
  · obtain ⟨p, ns, rfl, _⟩ := h
    rfl
  obtain ⟨p, ns, rfl, hS, h63, q⟩ := h
  have nd := sc_law.nd
  have G_law_state := ok_law_state (P := P) (w := w) (base := base) T.G
  have G_law_draw := ok_law_draw (P := P) (w := w) (base := base) T.G
  have G_law_program : FnOk P w K mg base CX0 43 ga.law_program.1 ga.law_program.2 ["state", "deep"] (spProgram 6 3) := ok_law_program (P := P) (w := w) (base := base) T.G (M := 6) (d := 3) (by decide) (by decide)
  have G_law_bad := ok_law_bad (P := P) (w := w) (base := base) T.G T.law_bad
  suffices hh : ∃ t, PSs (cxOf CX0 P w K mg base ["script", "state", "program", "at", "item", "bad", "choice", "broken", "before", "inner", "e"] "law" (defScope s_law) z.law.1 cdv A outer s H E).nox (defBody s_law) t ∧ t { nx := fun _ H' => Q .non H', rt := Q } (start ["script", "state", "program", "at", "item", "bad", "choice", "broken", "before", "inner", "e"] [V.ref p]) H by
    obtain ⟨t, ht, hq⟩ := hh
    exact ⟨t, ht.nox, hq⟩
  obtain ⟨tB, hB, qB⟩ := rest7 (P := P) (base := base) T (cdv := cdv) (A := A) (outer := outer) (s := s) (H0 := H) (E := E) (Q := Q) hg hr q
  refine ⟨_, (pss_cons (ps_set (i := 1) nd rfl (Or.inl rfl) (pe_call G_law_state (hr.mono (by omega)) rfl T.G.law_state.g T.G.law_state.F.kp T.G.law_state.b .nil pass0 (pa_cons (pv 0) pa_nil)))
  (pss_cons (ps_set (i := 2) nd rfl (Or.inl rfl) (pe_call G_law_program (hr.mono (by omega)) rfl T.G.law_program.g T.G.law_program.F.kp T.G.law_program.b .nil pass0 (pa_cons (pv 1) (pa_cons pe_int pa_nil))))
  (pss_cons (ps_set (i := 3) nd rfl (Or.inl rfl) (pe_op op_add pe_int (pe_call G_law_draw (hr.mono (by omega)) rfl T.G.law_draw.g T.G.law_draw.F.kp T.G.law_draw.b .nil pass0 (pa_cons (pv 1) (pa_cons (pe_op op_sub (pe_callB call_len_seq (by rfl) T.L.PT_.len PySem.boot_len (pa_cons (pv 2) pa_nil)) pe_int) pa_nil)))))
  (pss_cons (ps_set (i := 4) nd rfl (Or.inl rfl) (pe_ix ix_list (pv 2) (pv 3) (fun _ _ => rfl)))
  (pss_cons (ps_set (i := 5) nd rfl (Or.inl rfl) (pe_op op_catT (pe_slice sl_tup (pv 4) po_none (po_some pe_int)) (pe_tup (pa_cons (pe_call G_law_bad (hr.mono (by omega)) rfl T.law_bad.g T.law_bad.F.kp T.law_bad.b .nil pass0 (pa_cons (pv 1) (pa_cons (pe_ix ix_tup (pv 4) pe_int (fun _ _ => rfl)) pa_nil))) pa_nil))))
  (pss_cons (ps_set (i := 6) nd rfl (Or.inl rfl) (pe_call G_law_draw (hr.mono (by omega)) rfl T.G.law_draw.g T.G.law_draw.F.kp T.G.law_draw.b .nil pass0 (pa_cons (pv 1) (pa_cons pe_int pa_nil))))
  (pss_cons (ps_if (pt_cmpR op_eq (pv 6) pe_int (nomark _)) (pss_one (ps_set (i := 5) nd rfl (Or.inl rfl) (pe_op op_catT (pe_slice sl_tup (pv 4) po_none (po_some pe_int)) (pe_tup (pa_cons (pe_tup (pa_cons pe_str (pa_cons (pe_ix ix_tup (pv 4) pe_int (fun _ _ => rfl)) pa_nil))) (pa_cons (pe_ix ix_tup (pv 4) pe_int (fun _ _ => rfl)) pa_nil)))))) pss_nil)
  hB))))))), ?_⟩
  refine ⟨_, rfl, p, ns, rfl, hS, h63, fun H1 st c s1 nst nc hSt1 => ?_⟩
  refine ⟨_, rfl, st, c, 3, rfl, rfl, hSt1, fun H2 pp fs g2 n1 n2 hpn hpg hok l1 l2 => ?_⟩
  have PZ := pz_of hok l1 l2
  obtain ⟨us, hp2, fp2⟩ := hpg
  generalize base4 ++ fs = L at PZ fp2
  have PG := PZ.pg
  have pl := PG.len
  have ul := fp2.len
  refine ⟨_, rfl, _, rfl, pp, us, rfl, .inl (SqL.of hp2), _, _, rfl, rfl, st, c, _, rfl, g2.2, by omega, by omega, fun H3 n g3 n0 n3 => ?_⟩
  obtain ⟨m, rfl⟩ := Int.eq_ofNat_of_zero_le n0
  obtain ⟨i, hi⟩ : ∃ i : Nat, i = 2 + m := ⟨_, rfl⟩
  refine ⟨_, _, rfl, rfl, ?_⟩
  have hil : i < us.length := by omega
  obtain ⟨it, hit⟩ : ∃ it, us[i]? = some it := ⟨_, List.getElem?_eq_getElem hil⟩
  have hp3 := g3.1 _ _ n1 n2 hp2
  have fp3 := fp2.kt (g3.kt g2.2)
  obtain ⟨f, hf, fa3⟩ := fp3.get hit
  have fm := List.mem_of_getElem? hf
  refine ⟨_, rfl, _, rfl, pp, _, _, _, rfl, rfl, SqL.of hp3, (hi ▸ atI_nat hit : atI us ((2 + m : Nat) : Int) = some it), ?_⟩
  have fa3' := fa3
  obtain ⟨ia, u1, u2, u3, rfl, hia, k1, k2, eb⟩ := fa3
  refine ⟨_, rfl, _, rfl, ia, _, rfl, .inl (.inl hia), by simp [HT.sIx], fun d1 hd1 => ?_⟩
  rw [cut5]
  have g4 := Go.new (o := .tup [.str "function", .str f.name, .str f.param, u1, u2]) g3.2 hd1
  have k4 := g4.kt g3.2
  refine ⟨_, rfl, _, rfl, ia, _, _, _, rfl, rfl, .inl (.inl (k4 _ _ hia)), atI_nat (j := 5) rfl, ?_⟩
  refine ⟨st, c, u3, f.body, rfl, g4.2, eb.kt k4, fun H5 b0 e ve g5 hb0 he hve => ?_⟩
  refine ⟨(by show 1 ≤ sizeLine; decide), fun d2 hd2 => ?_⟩
  have g6 := Go.new (o := .tup [ve]) g5.2 hd2
  have k46 := (g5.trans g6).kt g4.2
  refine ⟨d1, d2, _, _, rfl, rfl, .inl (.inl (k46 _ _ upd_same)), .inl (.inl upd_same), by simp, by show 6 ≤ sizeLine; decide, fun z => by simp at z, fun _ d3 hd3 => ?_⟩
  have g7 := Go.new (o := .tup ([.str "function", .str f.name, .str f.param, u1, u2] ++ [ve])) g6.2 hd3
  have g37 := ((g4.trans g5).trans g6).trans g7
  have k37 := g37.kt g3.2
  have hd3' : (upd (upd H5 d2 (.tup [ve])) d3 (.tup ([.str "function", .str f.name, .str f.param, u1, u2] ++ [ve]))) d3 = some (.tup [.str "function", .str f.name, .str f.param, u1, u2, ve]) := upd_same
  have hve7 := hve.kt ((g6.trans g7).kt g5.2)
  have hp7 := g37.1 _ _ n1 n2 hp3
  generalize upd (upd H5 d2 (.tup [ve])) d3 (.tup ([.str "function", .str f.name, .str f.param, u1, u2] ++ [ve])) = H7 at g37 k37 hd3' hve7 hp7 g7 ⊢
  have fa7 := fa3'.kt k37
  have fg7 : FnAt H7 { f with body := e } (.ref d3) := ⟨d3, u1, u2, ve, rfl, hd3', k1.kt k37, k2.kt k37, hve7⟩
  refine ⟨_, rfl, st, c, _, rfl, g37.2, by decide, by decide, fun H8 ch g8 _ _ => ?_⟩
  have k8 := g8.kt g37.2
  have hp8 := g8.1 _ _ n1 n2 hp7
  have fp8 := fp3.kt (k37.trans k8)
  refine ⟨_, rfl, rfl, _, rfl, ?_⟩
  have hb := PZ.bd f fm
  refine ite2 (fun _ => ?_) (fun _ => ?_)
  · have hia8 := k8 _ _ (k37 _ _ hia)
    refine ⟨_, rfl, _, rfl, ia, _, rfl, .inl (.inl hia8), by simp [HT.sIx], fun e1 he1 => ?_⟩
    rw [cut4]
    have m1 := Go.new (o := .tup [.str "function", .str f.name, .str f.param, u1]) g8.2 he1
    have q1 := m1.kt g8.2
    refine ⟨_, rfl, ia, _, _, _, rfl, rfl, .inl (.inl (q1 _ _ hia8)), atI_nat (j := 4) rfl, ?_⟩
    refine ⟨(by show 2 ≤ sizeLine; decide), fun e2 he2 => ?_⟩
    have m2 := Go.new (o := .tup [.str "seq", u2]) m1.2 he2
    have q2 := q1.trans (m2.kt m1.2)
    refine ⟨_, rfl, ia, _, _, _, rfl, rfl, .inl (.inl (q2 _ _ hia8)), atI_nat (j := 5) rfl, ?_⟩
    refine ⟨(by show 2 ≤ sizeLine; decide), fun e3 he3 => ?_⟩
    have m3 := Go.new (o := .tup [.ref e2, u3]) m2.2 he3
    have q13 := (m2.trans m3).kt m1.2
    refine ⟨e1, e3, _, _, rfl, rfl, .inl (.inl (q13 _ _ upd_same)), .inl (.inl upd_same), by simp, by show 6 ≤ sizeLine; decide, fun z => by simp at z, fun _ e4 he4 => ?_⟩
    have m4 := Go.new (o := .tup ([.str "function", .str f.name, .str f.param, u1] ++ [.ref e2, u3])) m3.2 he4
    have m04 := ((m1.trans m2).trans m3).trans m4
    have q04 := m04.kt g8.2
    have q24 := (m3.trans m4).kt m2.2
    have h4' : (upd (upd (upd (upd H8 e1 (.tup [.str "function", .str f.name, .str f.param, u1])) e2 (.tup [.str "seq", u2])) e3 (.tup [.ref e2, u3])) e4 (.tup ([.str "function", .str f.name, .str f.param, u1] ++ [.ref e2, u3]))) e4 = some (.tup [.str "function", .str f.name, .str f.param, u1, .ref e2, u3]) := upd_same
    have k08 := (k37.trans k8).trans q04
    subst hi
    exact qB _ st c pp L us _ _ _ f { f with result := .seq f.result } ch _ (m04.1 _ _ n1 n2 hp8) (fp8.kt q04) PZ hf hit (fa7.kt (k8.trans q04)) ⟨e4, u1, .ref e2, u3, rfl, h4', k1.kt k08, ⟨e2, u2, rfl, q24 _ _ upd_same, k2.kt k08⟩, eb.kt k08⟩ (brk_kind PG (Nat.le_add_right 2 m) hf hb.2.2) m04.2 n1 n2
  · subst hi
    exact qB _ st c pp L us _ _ _ f { f with body := e } ch H8 hp8 fp8 PZ hf hit (fa7.kt k8) (fg7.kt k8) (brk_body PG hf hb0 he hb.2.1 (Nat.le_trans f.body.dp_le hb.1)) g8.2 n1 n2
end
end K2

namespace K2
open PySem PySem.Spec PyProof.Rows L2
/-! ### the top -/
theorem all_mk {l : PySem.W.OpenLaw} {w : World} {K : PySem.W.Frag} {h : Heap} {mg : Str → Option Value} {fa f0 f1 f2 f3 f4 f5 f6 f7 f8 cFlatError cTrapError cKindError cKindTable f9 f10 f11 f12 f13 f14 f15 f16 cBodyCheck f17 f18 f19 f20 f21 f22 f23 f24 f25 f26 f27 f28 f29 f30 f31 f32 f33 f34 f35 f36 f37 f38 f39 f40 f41 f42 f43 f44 f45 f46 f47 f48 f49 f50 f51 f52 f53 f54 f55 f56 f57 f58 f59 f60 f61 f62 f63 dOPERATIONS dRULES tBINDERS : Addr} (X : K.In h) (G : h.Ns mainGlobals mg) (hfa : mg "law" = some (.ref fa))
    {od0 an0 : Option Addr} {sl0 : Array (Option Value)} {oc0 kV0 dc0 pm0 cd0 ct0 : Value}
    {od1 an1 : Option Addr} {sl1 : Array (Option Value)} {oc1 kV1 dc1 pm1 cd1 ct1 : Value}
    {od2 an2 : Option Addr} {sl2 : Array (Option Value)} {oc2 kV2 dc2 pm2 cd2 ct2 : Value}
    {od3 an3 : Option Addr} {sl3 : Array (Option Value)} {oc3 kV3 dc3 pm3 cd3 ct3 : Value}
    {od4 an4 : Option Addr} {sl4 : Array (Option Value)} {oc4 kV4 dc4 pm4 cd4 ct4 : Value}
    {od5 an5 : Option Addr} {sl5 : Array (Option Value)} {oc5 kV5 dc5 pm5 cd5 ct5 : Value}
    {od6 an6 : Option Addr} {sl6 : Array (Option Value)} {oc6 kV6 dc6 pm6 cd6 ct6 : Value}
    {od7 an7 : Option Addr} {sl7 : Array (Option Value)} {oc7 kV7 dc7 pm7 cd7 ct7 : Value}
    {od8 an8 : Option Addr} {sl8 : Array (Option Value)} {oc8 kV8 dc8 pm8 cd8 ct8 : Value}
    {od9 an9 : Option Addr} {sl9 : Array (Option Value)} {oc9 kV9 dc9 pm9 cd9 ct9 : Value}
    {od10 an10 : Option Addr} {sl10 : Array (Option Value)} {oc10 kV10 dc10 pm10 cd10 ct10 : Value}
    {od11 an11 : Option Addr} {sl11 : Array (Option Value)} {oc11 kV11 dc11 pm11 cd11 ct11 : Value}
    {od12 an12 : Option Addr} {sl12 : Array (Option Value)} {oc12 kV12 dc12 pm12 cd12 ct12 : Value}
    {od13 an13 : Option Addr} {sl13 : Array (Option Value)} {oc13 kV13 dc13 pm13 cd13 ct13 : Value}
    {od14 an14 : Option Addr} {sl14 : Array (Option Value)} {oc14 kV14 dc14 pm14 cd14 ct14 : Value}
    {od15 an15 : Option Addr} {sl15 : Array (Option Value)} {oc15 kV15 dc15 pm15 cd15 ct15 : Value}
    {od16 an16 : Option Addr} {sl16 : Array (Option Value)} {oc16 kV16 dc16 pm16 cd16 ct16 : Value}
    {od17 an17 : Option Addr} {sl17 : Array (Option Value)} {oc17 kV17 dc17 pm17 cd17 ct17 : Value}
    {od18 an18 : Option Addr} {sl18 : Array (Option Value)} {oc18 kV18 dc18 pm18 cd18 ct18 : Value}
    {od19 an19 : Option Addr} {sl19 : Array (Option Value)} {oc19 kV19 dc19 pm19 cd19 ct19 : Value}
    {od20 an20 : Option Addr} {sl20 : Array (Option Value)} {oc20 kV20 dc20 pm20 cd20 ct20 : Value}
    {od21 an21 : Option Addr} {sl21 : Array (Option Value)} {oc21 kV21 dc21 pm21 cd21 ct21 : Value}
    {od22 an22 : Option Addr} {sl22 : Array (Option Value)} {oc22 kV22 dc22 pm22 cd22 ct22 : Value}
    {od23 an23 : Option Addr} {sl23 : Array (Option Value)} {oc23 kV23 dc23 pm23 cd23 ct23 : Value}
    {od24 an24 : Option Addr} {sl24 : Array (Option Value)} {oc24 kV24 dc24 pm24 cd24 ct24 : Value}
    {od25 an25 : Option Addr} {sl25 : Array (Option Value)} {oc25 kV25 dc25 pm25 cd25 ct25 : Value}
    {od26 an26 : Option Addr} {sl26 : Array (Option Value)} {oc26 kV26 dc26 pm26 cd26 ct26 : Value}
    {od27 an27 : Option Addr} {sl27 : Array (Option Value)} {oc27 kV27 dc27 pm27 cd27 ct27 : Value}
    {od28 an28 : Option Addr} {sl28 : Array (Option Value)} {oc28 kV28 dc28 pm28 cd28 ct28 : Value}
    {od29 an29 : Option Addr} {sl29 : Array (Option Value)} {oc29 kV29 dc29 pm29 cd29 ct29 : Value}
    {od30 an30 : Option Addr} {sl30 : Array (Option Value)} {oc30 kV30 dc30 pm30 cd30 ct30 : Value}
    {od31 an31 : Option Addr} {sl31 : Array (Option Value)} {oc31 kV31 dc31 pm31 cd31 ct31 : Value}
    {od32 an32 : Option Addr} {sl32 : Array (Option Value)} {oc32 kV32 dc32 pm32 cd32 ct32 : Value}
    {od33 an33 : Option Addr} {sl33 : Array (Option Value)} {oc33 kV33 dc33 pm33 cd33 ct33 : Value}
    {od34 an34 : Option Addr} {sl34 : Array (Option Value)} {oc34 kV34 dc34 pm34 cd34 ct34 : Value}
    {od35 an35 : Option Addr} {sl35 : Array (Option Value)} {oc35 kV35 dc35 pm35 cd35 ct35 : Value}
    {od36 an36 : Option Addr} {sl36 : Array (Option Value)} {oc36 kV36 dc36 pm36 cd36 ct36 : Value}
    {od37 an37 : Option Addr} {sl37 : Array (Option Value)} {oc37 kV37 dc37 pm37 cd37 ct37 : Value}
    {od38 an38 : Option Addr} {sl38 : Array (Option Value)} {oc38 kV38 dc38 pm38 cd38 ct38 : Value}
    {od39 an39 : Option Addr} {sl39 : Array (Option Value)} {oc39 kV39 dc39 pm39 cd39 ct39 : Value}
    {od40 an40 : Option Addr} {sl40 : Array (Option Value)} {oc40 kV40 dc40 pm40 cd40 ct40 : Value}
    {od41 an41 : Option Addr} {sl41 : Array (Option Value)} {oc41 kV41 dc41 pm41 cd41 ct41 : Value}
    {od42 an42 : Option Addr} {sl42 : Array (Option Value)} {oc42 kV42 dc42 pm42 cd42 ct42 : Value}
    {od43 an43 : Option Addr} {sl43 : Array (Option Value)} {oc43 kV43 dc43 pm43 cd43 ct43 : Value}
    {od44 an44 : Option Addr} {sl44 : Array (Option Value)} {oc44 kV44 dc44 pm44 cd44 ct44 : Value}
    {od45 an45 : Option Addr} {sl45 : Array (Option Value)} {oc45 kV45 dc45 pm45 cd45 ct45 : Value}
    {od46 an46 : Option Addr} {sl46 : Array (Option Value)} {oc46 kV46 dc46 pm46 cd46 ct46 : Value}
    {od47 an47 : Option Addr} {sl47 : Array (Option Value)} {oc47 kV47 dc47 pm47 cd47 ct47 : Value}
    {od48 an48 : Option Addr} {sl48 : Array (Option Value)} {oc48 kV48 dc48 pm48 cd48 ct48 : Value}
    {od49 an49 : Option Addr} {sl49 : Array (Option Value)} {oc49 kV49 dc49 pm49 cd49 ct49 : Value}
    {od50 an50 : Option Addr} {sl50 : Array (Option Value)} {oc50 kV50 dc50 pm50 cd50 ct50 : Value}
    {od51 an51 : Option Addr} {sl51 : Array (Option Value)} {oc51 kV51 dc51 pm51 cd51 ct51 : Value}
    {od52 an52 : Option Addr} {sl52 : Array (Option Value)} {oc52 kV52 dc52 pm52 cd52 ct52 : Value}
    {od53 an53 : Option Addr} {sl53 : Array (Option Value)} {oc53 kV53 dc53 pm53 cd53 ct53 : Value}
    {od54 an54 : Option Addr} {sl54 : Array (Option Value)} {oc54 kV54 dc54 pm54 cd54 ct54 : Value}
    {od55 an55 : Option Addr} {sl55 : Array (Option Value)} {oc55 kV55 dc55 pm55 cd55 ct55 : Value}
    {od56 an56 : Option Addr} {sl56 : Array (Option Value)} {oc56 kV56 dc56 pm56 cd56 ct56 : Value}
    {od57 an57 : Option Addr} {sl57 : Array (Option Value)} {oc57 kV57 dc57 pm57 cd57 ct57 : Value}
    {od58 an58 : Option Addr} {sl58 : Array (Option Value)} {oc58 kV58 dc58 pm58 cd58 ct58 : Value}
    {od59 an59 : Option Addr} {sl59 : Array (Option Value)} {oc59 kV59 dc59 pm59 cd59 ct59 : Value}
    {od60 an60 : Option Addr} {sl60 : Array (Option Value)} {oc60 kV60 dc60 pm60 cd60 ct60 : Value}
    {od61 an61 : Option Addr} {sl61 : Array (Option Value)} {oc61 kV61 dc61 pm61 cd61 ct61 : Value}
    {od62 an62 : Option Addr} {sl62 : Array (Option Value)} {oc62 kV62 dc62 pm62 cd62 ct62 : Value}
    {od63 an63 : Option Addr} {sl63 : Array (Option Value)} {oc63 kV63 dc63 pm63 cd63 ct63 : Value}
    {t_NUM : Tok}
    {esOPERATIONS : Array DictEntry} {nnOPERATIONS : Nat}
    {esRULES : Array DictEntry} {nnRULES : Nat}
    {odBINDERS : Option Addr} {nBINDERS : Nat} {slBINDERS : Array (Option Value)} {qBINDERS0 qBINDERS1 : Tok}
    (a0 : PySem.W.nsIn K mainGlobals "added" = some (some (.ref f0)))
    (l0 : K.lookup f0 = some ⟨oc0, od0, .func (PySem.W.fnOf "added" "added" (defArgs s_added) (defBody s_added) (defScope s_added) .none kV0 dc0 pm0 an0 cd0 ct0), sl0⟩)
    (c0 : PySem.W.codeIn K cd0 "added" = true)
    (k0 : PySem.W.keepIn K (.ref f0) = true)
    (a1 : PySem.W.nsIn K mainGlobals "subtracted" = some (some (.ref f1)))
    (l1 : K.lookup f1 = some ⟨oc1, od1, .func (PySem.W.fnOf "subtracted" "subtracted" (defArgs s_subtracted) (defBody s_subtracted) (defScope s_subtracted) .none kV1 dc1 pm1 an1 cd1 ct1), sl1⟩)
    (c1 : PySem.W.codeIn K cd1 "subtracted" = true)
    (k1 : PySem.W.keepIn K (.ref f1) = true)
    (a2 : PySem.W.nsIn K mainGlobals "multiplied" = some (some (.ref f2)))
    (l2 : K.lookup f2 = some ⟨oc2, od2, .func (PySem.W.fnOf "multiplied" "multiplied" (defArgs s_multiplied) (defBody s_multiplied) (defScope s_multiplied) .none kV2 dc2 pm2 an2 cd2 ct2), sl2⟩)
    (c2 : PySem.W.codeIn K cd2 "multiplied" = true)
    (k2 : PySem.W.keepIn K (.ref f2) = true)
    (a3 : PySem.W.nsIn K mainGlobals "quotient" = some (some (.ref f3)))
    (l3 : K.lookup f3 = some ⟨oc3, od3, .func (PySem.W.fnOf "quotient" "quotient" (defArgs s_quotient) (defBody s_quotient) (defScope s_quotient) .none kV3 dc3 pm3 an3 cd3 ct3), sl3⟩)
    (c3 : PySem.W.codeIn K cd3 "quotient" = true)
    (k3 : PySem.W.keepIn K (.ref f3) = true)
    (a4 : PySem.W.nsIn K mainGlobals "remainder" = some (some (.ref f4)))
    (l4 : K.lookup f4 = some ⟨oc4, od4, .func (PySem.W.fnOf "remainder" "remainder" (defArgs s_remainder) (defBody s_remainder) (defScope s_remainder) .none kV4 dc4 pm4 an4 cd4 ct4), sl4⟩)
    (c4 : PySem.W.codeIn K cd4 "remainder" = true)
    (k4 : PySem.W.keepIn K (.ref f4) = true)
    (a5 : PySem.W.nsIn K mainGlobals "smaller" = some (some (.ref f5)))
    (l5 : K.lookup f5 = some ⟨oc5, od5, .func (PySem.W.fnOf "smaller" "smaller" (defArgs s_smaller) (defBody s_smaller) (defScope s_smaller) .none kV5 dc5 pm5 an5 cd5 ct5), sl5⟩)
    (c5 : PySem.W.codeIn K cd5 "smaller" = true)
    (k5 : PySem.W.keepIn K (.ref f5) = true)
    (a6 : PySem.W.nsIn K mainGlobals "larger" = some (some (.ref f6)))
    (l6 : K.lookup f6 = some ⟨oc6, od6, .func (PySem.W.fnOf "larger" "larger" (defArgs s_larger) (defBody s_larger) (defScope s_larger) .none kV6 dc6 pm6 an6 cd6 ct6), sl6⟩)
    (c6 : PySem.W.codeIn K cd6 "larger" = true)
    (k6 : PySem.W.keepIn K (.ref f6) = true)
    (a7 : PySem.W.nsIn K mainGlobals "is_less" = some (some (.ref f7)))
    (l7 : K.lookup f7 = some ⟨oc7, od7, .func (PySem.W.fnOf "is_less" "is_less" (defArgs s_is_less) (defBody s_is_less) (defScope s_is_less) .none kV7 dc7 pm7 an7 cd7 ct7), sl7⟩)
    (c7 : PySem.W.codeIn K cd7 "is_less" = true)
    (k7 : PySem.W.keepIn K (.ref f7) = true)
    (a8 : PySem.W.nsIn K mainGlobals "is_equal" = some (some (.ref f8)))
    (l8 : K.lookup f8 = some ⟨oc8, od8, .func (PySem.W.fnOf "is_equal" "is_equal" (defArgs s_is_equal) (defBody s_is_equal) (defScope s_is_equal) .none kV8 dc8 pm8 an8 cd8 ct8), sl8⟩)
    (c8 : PySem.W.codeIn K cd8 "is_equal" = true)
    (k8 : PySem.W.keepIn K (.ref f8) = true)
    (g_FlatError : PySem.W.nsIn K mainGlobals "FlatError" = some (some (.ref cFlatError)))
    (g_TrapError : PySem.W.nsIn K mainGlobals "TrapError" = some (some (.ref cTrapError)))
    (g_KindError : PySem.W.nsIn K mainGlobals "KindError" = some (some (.ref cKindError)))
    (x_KindError : PySem.W.excIn K cKindError [.type "ValueError", .type "Exception", .type "BaseException", .type "object"] "ValueError.__new__" = true)
    (xk_KindError : PySem.W.keepIn K (.ref cKindError) = true)
    (xb_KindError : PySem.W.subIn K (.ref cKindError) (.type "BaseException") = some true)
    (xt_KindError : PySem.W.typeIn K (.ref cKindError) = some (.type "type"))
    (xi_KindError : PySem.W.isClsIn K cKindError = true)
    (xs_KindError : PySem.W.subIn K (.ref cKindError) (.ref cKindError) = some true)
    (e1_KindError : PySem.W.findIn K (.ref cKindError) "__getattribute__" = some (some (.builtin "BaseException.__getattribute__")))
    (e2_KindError : PySem.W.findIn K (.ref cKindError) "__getattr__" = some none)
    (e4_KindError : PySem.W.hasDictIn K cKindError = true)
    (e5_KindError : PySem.W.findIn K (.ref cKindError) "__class__" = some (some (.builtin "object.__class__")))
    (e6_KindError : PySem.W.specialIn K (.builtin "object.__class__") "__get__" = some (some (.builtin "getset_descriptor.__get__")))
    (e7_KindError : PySem.W.takesIn K (.builtin "object.__class__") = some true)
    (e8_KindError : PySem.W.mroIn K cKindError (.type "object") = some true)
    (yF : PySem.W.kitOne K (.ref cKindError) (.ref cFlatError) = some true)
    (yT : PySem.W.kitOne K (.ref cKindError) (.ref cTrapError) = some false)
    (g_KindTable : PySem.W.nsIn K mainGlobals "KindTable" = some (some (.ref cKindTable)))
    (pg_KindTable : PySem.W.plainGet K cKindTable Str.empty = true)
    (hd_KindTable : PySem.W.hasDictIn K cKindTable = true)
    (po_KindTable : PySem.W.plainOver K cKindTable = true)
    (sa_KindTable : PySem.W.findIn K (.ref cKindTable) "__setattr__" = some (some (.builtin "object.__setattr__")))
    (mk_KindTable : PySem.W.makesIn K cKindTable = true)
    (kc_KindTable : PySem.W.keepIn K (.ref cKindTable) = true)
    (n_KindTable_shapes : PySem.W.findIn K (.ref cKindTable) "shapes" = some none)
    (n_KindTable_numbers : PySem.W.findIn K (.ref cKindTable) "numbers" = some none)
    (a9 : PySem.W.findIn K (.ref cKindTable) "__init__" = some (some (.ref f9)))
    (i9 : PySem.W.isFn K (.ref f9) = true)
    (l9 : K.lookup f9 = some ⟨oc9, od9, .func (PySem.W.fnOf "__init__" "KindTable.__init__" (defArgs s_KindTable___init__) (defBody s_KindTable___init__) (defScope s_KindTable___init__) .none kV9 dc9 pm9 an9 cd9 ct9), sl9⟩)
    (c9 : PySem.W.codeIn K cd9 "KindTable.__init__" = true)
    (k9 : PySem.W.keepIn K (.ref f9) = true)
    (a10 : PySem.W.findIn K (.ref cKindTable) "number" = some (some (.ref f10)))
    (i10 : PySem.W.isFn K (.ref f10) = true)
    (l10 : K.lookup f10 = some ⟨oc10, od10, .func (PySem.W.fnOf "number" "KindTable.number" (defArgs s_KindTable_number) (defBody s_KindTable_number) (defScope s_KindTable_number) .none kV10 dc10 pm10 an10 cd10 ct10), sl10⟩)
    (c10 : PySem.W.codeIn K cd10 "KindTable.number" = true)
    (k10 : PySem.W.keepIn K (.ref f10) = true)
    (a11 : PySem.W.findIn K (.ref cKindTable) "number_of" = some (some (.ref f11)))
    (i11 : PySem.W.isFn K (.ref f11) = true)
    (l11 : K.lookup f11 = some ⟨oc11, od11, .func (PySem.W.fnOf "number_of" "KindTable.number_of" (defArgs s_KindTable_number_of) (defBody s_KindTable_number_of) (defScope s_KindTable_number_of) .none kV11 dc11 pm11 an11 cd11 ct11), sl11⟩)
    (c11 : PySem.W.codeIn K cd11 "KindTable.number_of" = true)
    (k11 : PySem.W.keepIn K (.ref f11) = true)
    (a12 : PySem.W.findIn K (.ref cKindTable) "pair" = some (some (.ref f12)))
    (i12 : PySem.W.isFn K (.ref f12) = true)
    (l12 : K.lookup f12 = some ⟨oc12, od12, .func (PySem.W.fnOf "pair" "KindTable.pair" (defArgs s_KindTable_pair) (defBody s_KindTable_pair) (defScope s_KindTable_pair) .none kV12 dc12 pm12 an12 cd12 ct12), sl12⟩)
    (c12 : PySem.W.codeIn K cd12 "KindTable.pair" = true)
    (k12 : PySem.W.keepIn K (.ref f12) = true)
    (a13 : PySem.W.findIn K (.ref cKindTable) "seq" = some (some (.ref f13)))
    (i13 : PySem.W.isFn K (.ref f13) = true)
    (l13 : K.lookup f13 = some ⟨oc13, od13, .func (PySem.W.fnOf "seq" "KindTable.seq" (defArgs s_KindTable_seq) (defBody s_KindTable_seq) (defScope s_KindTable_seq) .none kV13 dc13 pm13 an13 cd13 ct13), sl13⟩)
    (c13 : PySem.W.codeIn K cd13 "KindTable.seq" = true)
    (k13 : PySem.W.keepIn K (.ref f13) = true)
    (a14 : PySem.W.findIn K (.ref cKindTable) "parts" = some (some (.ref f14)))
    (i14 : PySem.W.isFn K (.ref f14) = true)
    (l14 : K.lookup f14 = some ⟨oc14, od14, .func (PySem.W.fnOf "parts" "KindTable.parts" (defArgs s_KindTable_parts) (defBody s_KindTable_parts) (defScope s_KindTable_parts) .none kV14 dc14 pm14 an14 cd14 ct14), sl14⟩)
    (c14 : PySem.W.codeIn K cd14 "KindTable.parts" = true)
    (k14 : PySem.W.keepIn K (.ref f14) = true)
    (a15 : PySem.W.findIn K (.ref cKindTable) "element" = some (some (.ref f15)))
    (i15 : PySem.W.isFn K (.ref f15) = true)
    (l15 : K.lookup f15 = some ⟨oc15, od15, .func (PySem.W.fnOf "element" "KindTable.element" (defArgs s_KindTable_element) (defBody s_KindTable_element) (defScope s_KindTable_element) .none kV15 dc15 pm15 an15 cd15 ct15), sl15⟩)
    (c15 : PySem.W.codeIn K cd15 "KindTable.element" = true)
    (k15 : PySem.W.keepIn K (.ref f15) = true)
    (a16 : PySem.W.findIn K (.ref cKindTable) "need" = some (some (.ref f16)))
    (i16 : PySem.W.isFn K (.ref f16) = true)
    (l16 : K.lookup f16 = some ⟨oc16, od16, .func (PySem.W.fnOf "need" "KindTable.need" (defArgs s_KindTable_need) (defBody s_KindTable_need) (defScope s_KindTable_need) .none kV16 dc16 pm16 an16 cd16 ct16), sl16⟩)
    (c16 : PySem.W.codeIn K cd16 "KindTable.need" = true)
    (k16 : PySem.W.keepIn K (.ref f16) = true)
    (g_BodyCheck : PySem.W.nsIn K mainGlobals "BodyCheck" = some (some (.ref cBodyCheck)))
    (pg_BodyCheck : PySem.W.plainGet K cBodyCheck Str.empty = true)
    (hd_BodyCheck : PySem.W.hasDictIn K cBodyCheck = true)
    (po_BodyCheck : PySem.W.plainOver K cBodyCheck = true)
    (sa_BodyCheck : PySem.W.findIn K (.ref cBodyCheck) "__setattr__" = some (some (.builtin "object.__setattr__")))
    (mk_BodyCheck : PySem.W.makesIn K cBodyCheck = true)
    (kc_BodyCheck : PySem.W.keepIn K (.ref cBodyCheck) = true)
    (n_BodyCheck_table : PySem.W.findIn K (.ref cBodyCheck) "table" = some none)
    (n_BodyCheck_signatures : PySem.W.findIn K (.ref cBodyCheck) "signatures" = some none)
    (n_BodyCheck_visible : PySem.W.findIn K (.ref cBodyCheck) "visible" = some none)
    (n_BodyCheck_done : PySem.W.findIn K (.ref cBodyCheck) "done" = some none)
    (a17 : PySem.W.findIn K (.ref cBodyCheck) "__init__" = some (some (.ref f17)))
    (i17 : PySem.W.isFn K (.ref f17) = true)
    (l17 : K.lookup f17 = some ⟨oc17, od17, .func (PySem.W.fnOf "__init__" "BodyCheck.__init__" (defArgs s_BodyCheck___init__) (defBody s_BodyCheck___init__) (defScope s_BodyCheck___init__) .none kV17 dc17 pm17 an17 cd17 ct17), sl17⟩)
    (c17 : PySem.W.codeIn K cd17 "BodyCheck.__init__" = true)
    (k17 : PySem.W.keepIn K (.ref f17) = true)
    (a18 : PySem.W.findIn K (.ref cBodyCheck) "kind_of_body" = some (some (.ref f18)))
    (i18 : PySem.W.isFn K (.ref f18) = true)
    (l18 : K.lookup f18 = some ⟨oc18, od18, .func (PySem.W.fnOf "kind_of_body" "BodyCheck.kind_of_body" (defArgs s_BodyCheck_kind_of_body) (defBody s_BodyCheck_kind_of_body) (defScope s_BodyCheck_kind_of_body) .none kV18 dc18 pm18 an18 cd18 ct18), sl18⟩)
    (c18 : PySem.W.codeIn K cd18 "BodyCheck.kind_of_body" = true)
    (k18 : PySem.W.keepIn K (.ref f18) = true)
    (a19 : PySem.W.findIn K (.ref cBodyCheck) "bind" = some (some (.ref f19)))
    (i19 : PySem.W.isFn K (.ref f19) = true)
    (l19 : K.lookup f19 = some ⟨oc19, od19, .func (PySem.W.fnOf "bind" "BodyCheck.bind" (defArgs s_BodyCheck_bind) (defBody s_BodyCheck_bind) (defScope s_BodyCheck_bind) .none kV19 dc19 pm19 an19 cd19 ct19), sl19⟩)
    (c19 : PySem.W.codeIn K cd19 "BodyCheck.bind" = true)
    (k19 : PySem.W.keepIn K (.ref f19) = true)
    (a20 : PySem.W.findIn K (.ref cBodyCheck) "leave" = some (some (.ref f20)))
    (i20 : PySem.W.isFn K (.ref f20) = true)
    (l20 : K.lookup f20 = some ⟨oc20, od20, .func (PySem.W.fnOf "leave" "BodyCheck.leave" (defArgs s_BodyCheck_leave) (defBody s_BodyCheck_leave) (defScope s_BodyCheck_leave) .none kV20 dc20 pm20 an20 cd20 ct20), sl20⟩)
    (c20 : PySem.W.codeIn K cd20 "BodyCheck.leave" = true)
    (k20 : PySem.W.keepIn K (.ref f20) = true)
    (a21 : PySem.W.findIn K (.ref cBodyCheck) "kind_of" = some (some (.ref f21)))
    (i21 : PySem.W.isFn K (.ref f21) = true)
    (l21 : K.lookup f21 = some ⟨oc21, od21, .func (PySem.W.fnOf "kind_of" "BodyCheck.kind_of" (defArgs s_BodyCheck_kind_of) (defBody s_BodyCheck_kind_of) (defScope s_BodyCheck_kind_of) .none kV21 dc21 pm21 an21 cd21 ct21), sl21⟩)
    (c21 : PySem.W.codeIn K cd21 "BodyCheck.kind_of" = true)
    (k21 : PySem.W.keepIn K (.ref f21) = true)
    (a22 : PySem.W.findIn K (.ref cBodyCheck) "kind_of_variable" = some (some (.ref f22)))
    (i22 : PySem.W.isFn K (.ref f22) = true)
    (l22 : K.lookup f22 = some ⟨oc22, od22, .func (PySem.W.fnOf "kind_of_variable" "BodyCheck.kind_of_variable" (defArgs s_BodyCheck_kind_of_variable) (defBody s_BodyCheck_kind_of_variable) (defScope s_BodyCheck_kind_of_variable) .none kV22 dc22 pm22 an22 cd22 ct22), sl22⟩)
    (c22 : PySem.W.codeIn K cd22 "BodyCheck.kind_of_variable" = true)
    (k22 : PySem.W.keepIn K (.ref f22) = true)
    (a23 : PySem.W.findIn K (.ref cBodyCheck) "kind_of_operation" = some (some (.ref f23)))
    (i23 : PySem.W.isFn K (.ref f23) = true)
    (l23 : K.lookup f23 = some ⟨oc23, od23, .func (PySem.W.fnOf "kind_of_operation" "BodyCheck.kind_of_operation" (defArgs s_BodyCheck_kind_of_operation) (defBody s_BodyCheck_kind_of_operation) (defScope s_BodyCheck_kind_of_operation) .none kV23 dc23 pm23 an23 cd23 ct23), sl23⟩)
    (c23 : PySem.W.codeIn K cd23 "BodyCheck.kind_of_operation" = true)
    (k23 : PySem.W.keepIn K (.ref f23) = true)
    (a24 : PySem.W.findIn K (.ref cBodyCheck) "kind_of_call" = some (some (.ref f24)))
    (i24 : PySem.W.isFn K (.ref f24) = true)
    (l24 : K.lookup f24 = some ⟨oc24, od24, .func (PySem.W.fnOf "kind_of_call" "BodyCheck.kind_of_call" (defArgs s_BodyCheck_kind_of_call) (defBody s_BodyCheck_kind_of_call) (defScope s_BodyCheck_kind_of_call) .none kV24 dc24 pm24 an24 cd24 ct24), sl24⟩)
    (c24 : PySem.W.codeIn K cd24 "BodyCheck.kind_of_call" = true)
    (k24 : PySem.W.keepIn K (.ref f24) = true)
    (a25 : PySem.W.nsIn K mainGlobals "kind_of_let" = some (some (.ref f25)))
    (l25 : K.lookup f25 = some ⟨oc25, od25, .func (PySem.W.fnOf "kind_of_let" "kind_of_let" (defArgs s_kind_of_let) (defBody s_kind_of_let) (defScope s_kind_of_let) .none kV25 dc25 pm25 an25 cd25 ct25), sl25⟩)
    (c25 : PySem.W.codeIn K cd25 "kind_of_let" = true)
    (k25 : PySem.W.keepIn K (.ref f25) = true)
    (a26 : PySem.W.nsIn K mainGlobals "kind_of_if" = some (some (.ref f26)))
    (l26 : K.lookup f26 = some ⟨oc26, od26, .func (PySem.W.fnOf "kind_of_if" "kind_of_if" (defArgs s_kind_of_if) (defBody s_kind_of_if) (defScope s_kind_of_if) .none kV26 dc26 pm26 an26 cd26 ct26), sl26⟩)
    (c26 : PySem.W.codeIn K cd26 "kind_of_if" = true)
    (k26 : PySem.W.keepIn K (.ref f26) = true)
    (a27 : PySem.W.nsIn K mainGlobals "kind_of_pair" = some (some (.ref f27)))
    (l27 : K.lookup f27 = some ⟨oc27, od27, .func (PySem.W.fnOf "kind_of_pair" "kind_of_pair" (defArgs s_kind_of_pair) (defBody s_kind_of_pair) (defScope s_kind_of_pair) .none kV27 dc27 pm27 an27 cd27 ct27), sl27⟩)
    (c27 : PySem.W.codeIn K cd27 "kind_of_pair" = true)
    (k27 : PySem.W.keepIn K (.ref f27) = true)
    (a28 : PySem.W.nsIn K mainGlobals "kind_of_first" = some (some (.ref f28)))
    (l28 : K.lookup f28 = some ⟨oc28, od28, .func (PySem.W.fnOf "kind_of_first" "kind_of_first" (defArgs s_kind_of_first) (defBody s_kind_of_first) (defScope s_kind_of_first) .none kV28 dc28 pm28 an28 cd28 ct28), sl28⟩)
    (c28 : PySem.W.codeIn K cd28 "kind_of_first" = true)
    (k28 : PySem.W.keepIn K (.ref f28) = true)
    (a29 : PySem.W.nsIn K mainGlobals "kind_of_second" = some (some (.ref f29)))
    (l29 : K.lookup f29 = some ⟨oc29, od29, .func (PySem.W.fnOf "kind_of_second" "kind_of_second" (defArgs s_kind_of_second) (defBody s_kind_of_second) (defScope s_kind_of_second) .none kV29 dc29 pm29 an29 cd29 ct29), sl29⟩)
    (c29 : PySem.W.codeIn K cd29 "kind_of_second" = true)
    (k29 : PySem.W.keepIn K (.ref f29) = true)
    (a30 : PySem.W.nsIn K mainGlobals "kind_of_each" = some (some (.ref f30)))
    (l30 : K.lookup f30 = some ⟨oc30, od30, .func (PySem.W.fnOf "kind_of_each" "kind_of_each" (defArgs s_kind_of_each) (defBody s_kind_of_each) (defScope s_kind_of_each) .none kV30 dc30 pm30 an30 cd30 ct30), sl30⟩)
    (c30 : PySem.W.codeIn K cd30 "kind_of_each" = true)
    (k30 : PySem.W.keepIn K (.ref f30) = true)
    (a31 : PySem.W.nsIn K mainGlobals "kind_of_iota" = some (some (.ref f31)))
    (l31 : K.lookup f31 = some ⟨oc31, od31, .func (PySem.W.fnOf "kind_of_iota" "kind_of_iota" (defArgs s_kind_of_iota) (defBody s_kind_of_iota) (defScope s_kind_of_iota) .none kV31 dc31 pm31 an31 cd31 ct31), sl31⟩)
    (c31 : PySem.W.codeIn K cd31 "kind_of_iota" = true)
    (k31 : PySem.W.keepIn K (.ref f31) = true)
    (a32 : PySem.W.nsIn K mainGlobals "kind_of_len" = some (some (.ref f32)))
    (l32 : K.lookup f32 = some ⟨oc32, od32, .func (PySem.W.fnOf "kind_of_len" "kind_of_len" (defArgs s_kind_of_len) (defBody s_kind_of_len) (defScope s_kind_of_len) .none kV32 dc32 pm32 an32 cd32 ct32), sl32⟩)
    (c32 : PySem.W.codeIn K cd32 "kind_of_len" = true)
    (k32 : PySem.W.keepIn K (.ref f32) = true)
    (a33 : PySem.W.nsIn K mainGlobals "kind_of_at" = some (some (.ref f33)))
    (l33 : K.lookup f33 = some ⟨oc33, od33, .func (PySem.W.fnOf "kind_of_at" "kind_of_at" (defArgs s_kind_of_at) (defBody s_kind_of_at) (defScope s_kind_of_at) .none kV33 dc33 pm33 an33 cd33 ct33), sl33⟩)
    (c33 : PySem.W.codeIn K cd33 "kind_of_at" = true)
    (k33 : PySem.W.keepIn K (.ref f33) = true)
    (a34 : PySem.W.nsIn K mainGlobals "kind_of_sum" = some (some (.ref f34)))
    (l34 : K.lookup f34 = some ⟨oc34, od34, .func (PySem.W.fnOf "kind_of_sum" "kind_of_sum" (defArgs s_kind_of_sum) (defBody s_kind_of_sum) (defScope s_kind_of_sum) .none kV34 dc34 pm34 an34 cd34 ct34), sl34⟩)
    (c34 : PySem.W.codeIn K cd34 "kind_of_sum" = true)
    (k34 : PySem.W.keepIn K (.ref f34) = true)
    (a35 : PySem.W.nsIn K mainGlobals "kind_of_flat" = some (some (.ref f35)))
    (l35 : K.lookup f35 = some ⟨oc35, od35, .func (PySem.W.fnOf "kind_of_flat" "kind_of_flat" (defArgs s_kind_of_flat) (defBody s_kind_of_flat) (defScope s_kind_of_flat) .none kV35 dc35 pm35 an35 cd35 ct35), sl35⟩)
    (c35 : PySem.W.codeIn K cd35 "kind_of_flat" = true)
    (k35 : PySem.W.keepIn K (.ref f35) = true)
    (a36 : PySem.W.nsIn K mainGlobals "kind_of_keep" = some (some (.ref f36)))
    (l36 : K.lookup f36 = some ⟨oc36, od36, .func (PySem.W.fnOf "kind_of_keep" "kind_of_keep" (defArgs s_kind_of_keep) (defBody s_kind_of_keep) (defScope s_kind_of_keep) .none kV36 dc36 pm36 an36 cd36 ct36), sl36⟩)
    (c36 : PySem.W.codeIn K cd36 "kind_of_keep" = true)
    (k36 : PySem.W.keepIn K (.ref f36) = true)
    (a37 : PySem.W.nsIn K mainGlobals "kind_of_append" = some (some (.ref f37)))
    (l37 : K.lookup f37 = some ⟨oc37, od37, .func (PySem.W.fnOf "kind_of_append" "kind_of_append" (defArgs s_kind_of_append) (defBody s_kind_of_append) (defScope s_kind_of_append) .none kV37 dc37 pm37 an37 cd37 ct37), sl37⟩)
    (c37 : PySem.W.codeIn K cd37 "kind_of_append" = true)
    (k37 : PySem.W.keepIn K (.ref f37) = true)
    (a38 : PySem.W.nsIn K mainGlobals "parts_of" = some (some (.ref f38)))
    (l38 : K.lookup f38 = some ⟨oc38, od38, .func (PySem.W.fnOf "parts_of" "parts_of" (defArgs s_parts_of) (defBody s_parts_of) (defScope s_parts_of) .none kV38 dc38 pm38 an38 cd38 ct38), sl38⟩)
    (c38 : PySem.W.codeIn K cd38 "parts_of" = true)
    (k38 : PySem.W.keepIn K (.ref f38) = true)
    (a39 : PySem.W.nsIn K mainGlobals "steps_inside" = some (some (.ref f39)))
    (l39 : K.lookup f39 = some ⟨oc39, od39, .func (PySem.W.fnOf "steps_inside" "steps_inside" (defArgs s_steps_inside) (defBody s_steps_inside) (defScope s_steps_inside) .none kV39 dc39 pm39 an39 cd39 ct39), sl39⟩)
    (c39 : PySem.W.codeIn K cd39 "steps_inside" = true)
    (k39 : PySem.W.keepIn K (.ref f39) = true)
    (a40 : PySem.W.nsIn K mainGlobals "steps" = some (some (.ref f40)))
    (l40 : K.lookup f40 = some ⟨oc40, od40, .func (PySem.W.fnOf "steps" "steps" (defArgs s_steps) (defBody s_steps) (defScope s_steps) .none kV40 dc40 pm40 an40 cd40 ct40), sl40⟩)
    (c40 : PySem.W.codeIn K cd40 "steps" = true)
    (k40 : PySem.W.keepIn K (.ref f40) = true)
    (a41 : PySem.W.nsIn K mainGlobals "free_names" = some (some (.ref f41)))
    (l41 : K.lookup f41 = some ⟨oc41, od41, .func (PySem.W.fnOf "free_names" "free_names" (defArgs s_free_names) (defBody s_free_names) (defScope s_free_names) .none kV41 dc41 pm41 an41 cd41 ct41), sl41⟩)
    (c41 : PySem.W.codeIn K cd41 "free_names" = true)
    (k41 : PySem.W.keepIn K (.ref f41) = true)
    (a42 : PySem.W.nsIn K mainGlobals "taken_off" = some (some (.ref f42)))
    (l42 : K.lookup f42 = some ⟨oc42, od42, .func (PySem.W.fnOf "taken_off" "taken_off" (defArgs s_taken_off) (defBody s_taken_off) (defScope s_taken_off) .none kV42 dc42 pm42 an42 cd42 ct42), sl42⟩)
    (c42 : PySem.W.codeIn K cd42 "taken_off" = true)
    (k42 : PySem.W.keepIn K (.ref f42) = true)
    (a43 : PySem.W.nsIn K mainGlobals "signatures_of" = some (some (.ref f43)))
    (l43 : K.lookup f43 = some ⟨oc43, od43, .func (PySem.W.fnOf "signatures_of" "signatures_of" (defArgs s_signatures_of) (defBody s_signatures_of) (defScope s_signatures_of) .none kV43 dc43 pm43 an43 cd43 ct43), sl43⟩)
    (c43 : PySem.W.codeIn K cd43 "signatures_of" = true)
    (k43 : PySem.W.keepIn K (.ref f43) = true)
    (a44 : PySem.W.nsIn K mainGlobals "check" = some (some (.ref f44)))
    (l44 : K.lookup f44 = some ⟨oc44, od44, .func (PySem.W.fnOf "check" "check" (defArgs s_check) (defBody s_check) (defScope s_check) .none kV44 dc44 pm44 an44 cd44 ct44), sl44⟩)
    (c44 : PySem.W.codeIn K cd44 "check" = true)
    (k44 : PySem.W.keepIn K (.ref f44) = true)
    (a45 : PySem.W.nsIn K mainGlobals "_law_free" = some (some (.ref f45)))
    (l45 : K.lookup f45 = some ⟨oc45, od45, .func (PySem.W.fnOf "_law_free" "_law_free" (defArgs s_law_free) (defBody s_law_free) (defScope s_law_free) .none kV45 dc45 pm45 an45 cd45 ct45), sl45⟩)
    (c45 : PySem.W.codeIn K cd45 "_law_free" = true)
    (k45 : PySem.W.keepIn K (.ref f45) = true)
    (a46 : PySem.W.nsIn K mainGlobals "_law_state" = some (some (.ref f46)))
    (l46 : K.lookup f46 = some ⟨oc46, od46, .func (PySem.W.fnOf "_law_state" "_law_state" (defArgs s_law_state) (defBody s_law_state) (defScope s_law_state) .none kV46 dc46 pm46 an46 cd46 ct46), sl46⟩)
    (c46 : PySem.W.codeIn K cd46 "_law_state" = true)
    (k46 : PySem.W.keepIn K (.ref f46) = true)
    (a47 : PySem.W.nsIn K mainGlobals "_law_draw" = some (some (.ref f47)))
    (l47 : K.lookup f47 = some ⟨oc47, od47, .func (PySem.W.fnOf "_law_draw" "_law_draw" (defArgs s_law_draw) (defBody s_law_draw) (defScope s_law_draw) .none kV47 dc47 pm47 an47 cd47 ct47), sl47⟩)
    (c47 : PySem.W.codeIn K cd47 "_law_draw" = true)
    (k47 : PySem.W.keepIn K (.ref f47) = true)
    (a48 : PySem.W.nsIn K mainGlobals "_law_pick" = some (some (.ref f48)))
    (l48 : K.lookup f48 = some ⟨oc48, od48, .func (PySem.W.fnOf "_law_pick" "_law_pick" (defArgs s_law_pick) (defBody s_law_pick) (defScope s_law_pick) .none kV48 dc48 pm48 an48 cd48 ct48), sl48⟩)
    (c48 : PySem.W.codeIn K cd48 "_law_pick" = true)
    (k48 : PySem.W.keepIn K (.ref f48) = true)
    (a49 : PySem.W.nsIn K mainGlobals "_law_number" = some (some (.ref f49)))
    (l49 : K.lookup f49 = some ⟨oc49, od49, .func (PySem.W.fnOf "_law_number" "_law_number" (defArgs s_law_number) (defBody s_law_number) (defScope s_law_number) .none kV49 dc49 pm49 an49 cd49 ct49), sl49⟩)
    (c49 : PySem.W.codeIn K cd49 "_law_number" = true)
    (k49 : PySem.W.keepIn K (.ref f49) = true)
    (a50 : PySem.W.nsIn K mainGlobals "_law_kind" = some (some (.ref f50)))
    (l50 : K.lookup f50 = some ⟨oc50, od50, .func (PySem.W.fnOf "_law_kind" "_law_kind" (defArgs s_law_kind) (defBody s_law_kind) (defScope s_law_kind) .none kV50 dc50 pm50 an50 cd50 ct50), sl50⟩)
    (c50 : PySem.W.codeIn K cd50 "_law_kind" = true)
    (k50 : PySem.W.keepIn K (.ref f50) = true)
    (a51 : PySem.W.nsIn K mainGlobals "_law_vars" = some (some (.ref f51)))
    (l51 : K.lookup f51 = some ⟨oc51, od51, .func (PySem.W.fnOf "_law_vars" "_law_vars" (defArgs s_law_vars) (defBody s_law_vars) (defScope s_law_vars) .none kV51 dc51 pm51 an51 cd51 ct51), sl51⟩)
    (c51 : PySem.W.codeIn K cd51 "_law_vars" = true)
    (k51 : PySem.W.keepIn K (.ref f51) = true)
    (a52 : PySem.W.nsIn K mainGlobals "_law_with" = some (some (.ref f52)))
    (l52 : K.lookup f52 = some ⟨oc52, od52, .func (PySem.W.fnOf "_law_with" "_law_with" (defArgs s_law_with) (defBody s_law_with) (defScope s_law_with) .none kV52 dc52 pm52 an52 cd52 ct52), sl52⟩)
    (c52 : PySem.W.codeIn K cd52 "_law_with" = true)
    (k52 : PySem.W.keepIn K (.ref f52) = true)
    (a53 : PySem.W.nsIn K mainGlobals "_law_seq" = some (some (.ref f53)))
    (l53 : K.lookup f53 = some ⟨oc53, od53, .func (PySem.W.fnOf "_law_seq" "_law_seq" (defArgs s_law_seq) (defBody s_law_seq) (defScope s_law_seq) .none kV53 dc53 pm53 an53 cd53 ct53), sl53⟩)
    (c53 : PySem.W.codeIn K cd53 "_law_seq" = true)
    (k53 : PySem.W.keepIn K (.ref f53) = true)
    (a54 : PySem.W.nsIn K mainGlobals "_law_num" = some (some (.ref f54)))
    (l54 : K.lookup f54 = some ⟨oc54, od54, .func (PySem.W.fnOf "_law_num" "_law_num" (defArgs s_law_num) (defBody s_law_num) (defScope s_law_num) .none kV54 dc54 pm54 an54 cd54 ct54), sl54⟩)
    (c54 : PySem.W.codeIn K cd54 "_law_num" = true)
    (k54 : PySem.W.keepIn K (.ref f54) = true)
    (a55 : PySem.W.nsIn K mainGlobals "_law_leaf" = some (some (.ref f55)))
    (l55 : K.lookup f55 = some ⟨oc55, od55, .func (PySem.W.fnOf "_law_leaf" "_law_leaf" (defArgs s_law_leaf) (defBody s_law_leaf) (defScope s_law_leaf) .none kV55 dc55 pm55 an55 cd55 ct55), sl55⟩)
    (c55 : PySem.W.codeIn K cd55 "_law_leaf" = true)
    (k55 : PySem.W.keepIn K (.ref f55) = true)
    (a56 : PySem.W.nsIn K mainGlobals "_law_expr" = some (some (.ref f56)))
    (l56 : K.lookup f56 = some ⟨oc56, od56, .func (PySem.W.fnOf "_law_expr" "_law_expr" (defArgs s_law_expr) (defBody s_law_expr) (defScope s_law_expr) .none kV56 dc56 pm56 an56 cd56 ct56), sl56⟩)
    (c56 : PySem.W.codeIn K cd56 "_law_expr" = true)
    (k56 : PySem.W.keepIn K (.ref f56) = true)
    (a57 : PySem.W.nsIn K mainGlobals "_law_down" = some (some (.ref f57)))
    (l57 : K.lookup f57 = some ⟨oc57, od57, .func (PySem.W.fnOf "_law_down" "_law_down" (defArgs s_law_down) (defBody s_law_down) (defScope s_law_down) .none kV57 dc57 pm57 an57 cd57 ct57), sl57⟩)
    (c57 : PySem.W.codeIn K cd57 "_law_down" = true)
    (k57 : PySem.W.keepIn K (.ref f57) = true)
    (a58 : PySem.W.nsIn K mainGlobals "_law_turns" = some (some (.ref f58)))
    (l58 : K.lookup f58 = some ⟨oc58, od58, .func (PySem.W.fnOf "_law_turns" "_law_turns" (defArgs s_law_turns) (defBody s_law_turns) (defScope s_law_turns) .none kV58 dc58 pm58 an58 cd58 ct58), sl58⟩)
    (c58 : PySem.W.codeIn K cd58 "_law_turns" = true)
    (k58 : PySem.W.keepIn K (.ref f58) = true)
    (a59 : PySem.W.nsIn K mainGlobals "_law_sorted" = some (some (.ref f59)))
    (l59 : K.lookup f59 = some ⟨oc59, od59, .func (PySem.W.fnOf "_law_sorted" "_law_sorted" (defArgs s_law_sorted) (defBody s_law_sorted) (defScope s_law_sorted) .none kV59 dc59 pm59 an59 cd59 ct59), sl59⟩)
    (c59 : PySem.W.codeIn K cd59 "_law_sorted" = true)
    (k59 : PySem.W.keepIn K (.ref f59) = true)
    (a60 : PySem.W.nsIn K mainGlobals "_law_program" = some (some (.ref f60)))
    (l60 : K.lookup f60 = some ⟨oc60, od60, .func (PySem.W.fnOf "_law_program" "_law_program" (defArgs s_law_program) (defBody s_law_program) (defScope s_law_program) .none kV60 dc60 pm60 an60 cd60 ct60), sl60⟩)
    (c60 : PySem.W.codeIn K cd60 "_law_program" = true)
    (k60 : PySem.W.keepIn K (.ref f60) = true)
    (a61 : PySem.W.nsIn K mainGlobals "_law_told" = some (some (.ref f61)))
    (l61 : K.lookup f61 = some ⟨oc61, od61, .func (PySem.W.fnOf "_law_told" "_law_told" (defArgs s_law_told) (defBody s_law_told) (defScope s_law_told) .none kV61 dc61 pm61 an61 cd61 ct61), sl61⟩)
    (c61 : PySem.W.codeIn K cd61 "_law_told" = true)
    (k61 : PySem.W.keepIn K (.ref f61) = true)
    (a62 : PySem.W.nsIn K mainGlobals "_law_bad" = some (some (.ref f62)))
    (l62 : K.lookup f62 = some ⟨oc62, od62, .func (PySem.W.fnOf "_law_bad" "_law_bad" (defArgs s_law_bad) (defBody s_law_bad) (defScope s_law_bad) .none kV62 dc62 pm62 an62 cd62 ct62), sl62⟩)
    (c62 : PySem.W.codeIn K cd62 "_law_bad" = true)
    (k62 : PySem.W.keepIn K (.ref f62) = true)
    (a63 : PySem.W.nsIn K mainGlobals "law" = some (some (.ref f63)))
    (l63 : K.lookup f63 = some ⟨oc63, od63, .func (PySem.W.fnOf "law" "law" (defArgs s_law) (defBody s_law) (defScope s_law) .none kV63 dc63 pm63 an63 cd63 ct63), sl63⟩)
    (c63 : PySem.W.codeIn K cd63 "law" = true)
    (k63 : PySem.W.keepIn K (.ref f63) = true)
    (b_abs : PySem.W.nsIn K mainGlobals "abs" = some none)
    (b_int : PySem.W.nsIn K mainGlobals "int" = some none)
    (b_isinstance : PySem.W.nsIn K mainGlobals "isinstance" = some none)
    (b_len : PySem.W.nsIn K mainGlobals "len" = some none)
    (b_list : PySem.W.nsIn K mainGlobals "list" = some none)
    (b_min : PySem.W.nsIn K mainGlobals "min" = some none)
    (b_range : PySem.W.nsIn K mainGlobals "range" = some none)
    (b_repr : PySem.W.nsIn K mainGlobals "repr" = some none)
    (b_reversed : PySem.W.nsIn K mainGlobals "reversed" = some none)
    (b_set : PySem.W.nsIn K mainGlobals "set" = some none)
    (b_sorted : PySem.W.nsIn K mainGlobals "sorted" = some none)
    (b_str : PySem.W.nsIn K mainGlobals "str" = some none)
    (b_tuple : PySem.W.nsIn K mainGlobals "tuple" = some none)
    (h_NUM : PySem.W.nsIn K mainGlobals "NUM" = some (some (.int 0 t_NUM)))
    (g_OPERATIONS : PySem.W.nsIn K mainGlobals "OPERATIONS" = some (some (.ref dOPERATIONS)))
    (dl_OPERATIONS : K.lookup dOPERATIONS = some ⟨.type "dict", none, .dict esOPERATIONS nnOPERATIONS, #[]⟩)
    (dk_OPERATIONS : PySem.W.KeysLit w.params esOPERATIONS.toList)
    (d0_OPERATIONS : PySem.W.nsIn K dOPERATIONS "+" = some (some (.ref f0)))
    (d1_OPERATIONS : PySem.W.nsIn K dOPERATIONS "-" = some (some (.ref f1)))
    (d2_OPERATIONS : PySem.W.nsIn K dOPERATIONS "*" = some (some (.ref f2)))
    (d3_OPERATIONS : PySem.W.nsIn K dOPERATIONS "/" = some (some (.ref f3)))
    (d4_OPERATIONS : PySem.W.nsIn K dOPERATIONS "mod" = some (some (.ref f4)))
    (d5_OPERATIONS : PySem.W.nsIn K dOPERATIONS "min" = some (some (.ref f5)))
    (d6_OPERATIONS : PySem.W.nsIn K dOPERATIONS "max" = some (some (.ref f6)))
    (d7_OPERATIONS : PySem.W.nsIn K dOPERATIONS "<" = some (some (.ref f7)))
    (d8_OPERATIONS : PySem.W.nsIn K dOPERATIONS "=" = some (some (.ref f8)))
    (oN : PySem.W.nsIn K dOPERATIONS "**" = some none)
    (oLow : (dOPERATIONS == sysModules) = false)
    (g_RULES : PySem.W.nsIn K mainGlobals "RULES" = some (some (.ref dRULES)))
    (dl_RULES : K.lookup dRULES = some ⟨.type "dict", none, .dict esRULES nnRULES, #[]⟩)
    (dk_RULES : PySem.W.KeysLit w.params esRULES.toList)
    (d0_RULES : PySem.W.nsIn K dRULES "let" = some (some (.ref f25)))
    (d1_RULES : PySem.W.nsIn K dRULES "if" = some (some (.ref f26)))
    (d2_RULES : PySem.W.nsIn K dRULES "pair" = some (some (.ref f27)))
    (d3_RULES : PySem.W.nsIn K dRULES "first" = some (some (.ref f28)))
    (d4_RULES : PySem.W.nsIn K dRULES "second" = some (some (.ref f29)))
    (d5_RULES : PySem.W.nsIn K dRULES "each" = some (some (.ref f30)))
    (d6_RULES : PySem.W.nsIn K dRULES "iota" = some (some (.ref f31)))
    (d7_RULES : PySem.W.nsIn K dRULES "len" = some (some (.ref f32)))
    (d8_RULES : PySem.W.nsIn K dRULES "at" = some (some (.ref f33)))
    (d9_RULES : PySem.W.nsIn K dRULES "sum" = some (some (.ref f34)))
    (d10_RULES : PySem.W.nsIn K dRULES "flat" = some (some (.ref f35)))
    (d11_RULES : PySem.W.nsIn K dRULES "keep" = some (some (.ref f36)))
    (d12_RULES : PySem.W.nsIn K dRULES "append" = some (some (.ref f37)))
    (g_BINDERS : PySem.W.nsIn K mainGlobals "BINDERS" = some (some (.ref tBINDERS)))
    (tl_BINDERS : K.lookup tBINDERS = some ⟨.type "tuple", odBINDERS, .seq #[.str "let" qBINDERS0, .str "each" qBINDERS1] nBINDERS, slBINDERS⟩)
    : ∃ fd : FuncData, (∀ (s : Shared) (v : Value), BindsTo s fd ⟨[v], []⟩ [("script", v)]) ∧ ∀ base : Heap, K.In base → base.Ns mainGlobals mg → GX.FnG l.prog w K mg base CX0 45 fa fd ["script"] (spLaw K) := by
  have e := hfa.symm.trans (PySem.W.mg_of X G a63)
  cases e
  have F0 := fun_mk (st := s_added) l0 c0 k0
  have B0 := F0.binds (ps := ["a", "b"]) fun _ _ _ _ _ _ us hl => match us, hl with | [_, _], _ => rfl
  have F1 := fun_mk (st := s_subtracted) l1 c1 k1
  have B1 := F1.binds (ps := ["a", "b"]) fun _ _ _ _ _ _ us hl => match us, hl with | [_, _], _ => rfl
  have F2 := fun_mk (st := s_multiplied) l2 c2 k2
  have B2 := F2.binds (ps := ["a", "b"]) fun _ _ _ _ _ _ us hl => match us, hl with | [_, _], _ => rfl
  have F3 := fun_mk (st := s_quotient) l3 c3 k3
  have B3 := F3.binds (ps := ["a", "b"]) fun _ _ _ _ _ _ us hl => match us, hl with | [_, _], _ => rfl
  have F4 := fun_mk (st := s_remainder) l4 c4 k4
  have B4 := F4.binds (ps := ["a", "b"]) fun _ _ _ _ _ _ us hl => match us, hl with | [_, _], _ => rfl
  have F5 := fun_mk (st := s_smaller) l5 c5 k5
  have B5 := F5.binds (ps := ["a", "b"]) fun _ _ _ _ _ _ us hl => match us, hl with | [_, _], _ => rfl
  have F6 := fun_mk (st := s_larger) l6 c6 k6
  have B6 := F6.binds (ps := ["a", "b"]) fun _ _ _ _ _ _ us hl => match us, hl with | [_, _], _ => rfl
  have F7 := fun_mk (st := s_is_less) l7 c7 k7
  have B7 := F7.binds (ps := ["a", "b"]) fun _ _ _ _ _ _ us hl => match us, hl with | [_, _], _ => rfl
  have F8 := fun_mk (st := s_is_equal) l8 c8 k8
  have B8 := F8.binds (ps := ["a", "b"]) fun _ _ _ _ _ _ us hl => match us, hl with | [_, _], _ => rfl
  have F9 := fun_mk (st := s_KindTable___init__) l9 c9 k9
  have B9 := F9.binds (ps := ["self"]) fun _ _ _ _ _ _ us hl => match us, hl with | [_], _ => rfl
  have F10 := fun_mk (st := s_KindTable_number) l10 c10 k10
  have B10 := F10.binds (ps := ["self", "shape"]) fun _ _ _ _ _ _ us hl => match us, hl with | [_, _], _ => rfl
  have F11 := fun_mk (st := s_KindTable_number_of) l11 c11 k11
  have B11 := F11.binds (ps := ["self", "kind"]) fun _ _ _ _ _ _ us hl => match us, hl with | [_, _], _ => rfl
  have F12 := fun_mk (st := s_KindTable_pair) l12 c12 k12
  have B12 := F12.binds (ps := ["self", "first", "second"]) fun _ _ _ _ _ _ us hl => match us, hl with | [_, _, _], _ => rfl
  have F13 := fun_mk (st := s_KindTable_seq) l13 c13 k13
  have B13 := F13.binds (ps := ["self", "element"]) fun _ _ _ _ _ _ us hl => match us, hl with | [_, _], _ => rfl
  have F14 := fun_mk (st := s_KindTable_parts) l14 c14 k14
  have B14 := F14.binds (ps := ["self", "kind", "form"]) fun _ _ _ _ _ _ us hl => match us, hl with | [_, _, _], _ => rfl
  have F15 := fun_mk (st := s_KindTable_element) l15 c15 k15
  have B15 := F15.binds (ps := ["self", "kind"]) fun _ _ _ _ _ _ us hl => match us, hl with | [_, _], _ => rfl
  have F16 := fun_mk (st := s_KindTable_need) l16 c16 k16
  have B16 := F16.binds (ps := ["self", "kind", "needed"]) fun _ _ _ _ _ _ us hl => match us, hl with | [_, _, _], _ => rfl
  have F17 := fun_mk (st := s_BodyCheck___init__) l17 c17 k17
  have B17 := F17.binds (ps := ["self", "table", "signatures", "param", "given"]) fun _ _ _ _ _ _ us hl => match us, hl with | [_, _, _, _, _], _ => rfl
  have F18 := fun_mk (st := s_BodyCheck_kind_of_body) l18 c18 k18
  have B18 := F18.binds (ps := ["self", "body"]) fun _ _ _ _ _ _ us hl => match us, hl with | [_, _], _ => rfl
  have F19 := fun_mk (st := s_BodyCheck_bind) l19 c19 k19
  have B19 := F19.binds (ps := ["self", "e"]) fun _ _ _ _ _ _ us hl => match us, hl with | [_, _], _ => rfl
  have F20 := fun_mk (st := s_BodyCheck_leave) l20 c20 k20
  have B20 := F20.binds (ps := ["self", "e"]) fun _ _ _ _ _ _ us hl => match us, hl with | [_, _], _ => rfl
  have F21 := fun_mk (st := s_BodyCheck_kind_of) l21 c21 k21
  have B21 := F21.binds (ps := ["self", "e", "parts"]) fun _ _ _ _ _ _ us hl => match us, hl with | [_, _, _], _ => rfl
  have F22 := fun_mk (st := s_BodyCheck_kind_of_variable) l22 c22 k22
  have B22 := F22.binds (ps := ["self", "name"]) fun _ _ _ _ _ _ us hl => match us, hl with | [_, _], _ => rfl
  have F23 := fun_mk (st := s_BodyCheck_kind_of_operation) l23 c23 k23
  have B23 := F23.binds (ps := ["self", "sign", "parts"]) fun _ _ _ _ _ _ us hl => match us, hl with | [_, _, _], _ => rfl
  have F24 := fun_mk (st := s_BodyCheck_kind_of_call) l24 c24 k24
  have B24 := F24.binds (ps := ["self", "name", "argument"]) fun _ _ _ _ _ _ us hl => match us, hl with | [_, _, _], _ => rfl
  have F25 := fun_mk (st := s_kind_of_let) l25 c25 k25
  have B25 := F25.binds (ps := ["table", "parts"]) fun _ _ _ _ _ _ us hl => match us, hl with | [_, _], _ => rfl
  have F26 := fun_mk (st := s_kind_of_if) l26 c26 k26
  have B26 := F26.binds (ps := ["table", "parts"]) fun _ _ _ _ _ _ us hl => match us, hl with | [_, _], _ => rfl
  have F27 := fun_mk (st := s_kind_of_pair) l27 c27 k27
  have B27 := F27.binds (ps := ["table", "parts"]) fun _ _ _ _ _ _ us hl => match us, hl with | [_, _], _ => rfl
  have F28 := fun_mk (st := s_kind_of_first) l28 c28 k28
  have B28 := F28.binds (ps := ["table", "parts"]) fun _ _ _ _ _ _ us hl => match us, hl with | [_, _], _ => rfl
  have F29 := fun_mk (st := s_kind_of_second) l29 c29 k29
  have B29 := F29.binds (ps := ["table", "parts"]) fun _ _ _ _ _ _ us hl => match us, hl with | [_, _], _ => rfl
  have F30 := fun_mk (st := s_kind_of_each) l30 c30 k30
  have B30 := F30.binds (ps := ["table", "parts"]) fun _ _ _ _ _ _ us hl => match us, hl with | [_, _], _ => rfl
  have F31 := fun_mk (st := s_kind_of_iota) l31 c31 k31
  have B31 := F31.binds (ps := ["table", "parts"]) fun _ _ _ _ _ _ us hl => match us, hl with | [_, _], _ => rfl
  have F32 := fun_mk (st := s_kind_of_len) l32 c32 k32
  have B32 := F32.binds (ps := ["table", "parts"]) fun _ _ _ _ _ _ us hl => match us, hl with | [_, _], _ => rfl
  have F33 := fun_mk (st := s_kind_of_at) l33 c33 k33
  have B33 := F33.binds (ps := ["table", "parts"]) fun _ _ _ _ _ _ us hl => match us, hl with | [_, _], _ => rfl
  have F34 := fun_mk (st := s_kind_of_sum) l34 c34 k34
  have B34 := F34.binds (ps := ["table", "parts"]) fun _ _ _ _ _ _ us hl => match us, hl with | [_, _], _ => rfl
  have F35 := fun_mk (st := s_kind_of_flat) l35 c35 k35
  have B35 := F35.binds (ps := ["table", "parts"]) fun _ _ _ _ _ _ us hl => match us, hl with | [_, _], _ => rfl
  have F36 := fun_mk (st := s_kind_of_keep) l36 c36 k36
  have B36 := F36.binds (ps := ["table", "parts"]) fun _ _ _ _ _ _ us hl => match us, hl with | [_, _], _ => rfl
  have F37 := fun_mk (st := s_kind_of_append) l37 c37 k37
  have B37 := F37.binds (ps := ["table", "parts"]) fun _ _ _ _ _ _ us hl => match us, hl with | [_, _], _ => rfl
  have F38 := fun_mk (st := s_parts_of) l38 c38 k38
  have B38 := F38.binds (ps := ["e"]) fun _ _ _ _ _ _ us hl => match us, hl with | [_], _ => rfl
  have F39 := fun_mk (st := s_steps_inside) l39 c39 k39
  have B39 := F39.binds (ps := ["e"]) fun _ _ _ _ _ _ us hl => match us, hl with | [_], _ => rfl
  have F40 := fun_mk (st := s_steps) l40 c40 k40
  have B40 := F40.binds (ps := ["e"]) fun _ _ _ _ _ _ us hl => match us, hl with | [_], _ => rfl
  have F41 := fun_mk (st := s_free_names) l41 c41 k41
  have B41 := F41.binds (ps := ["e"]) fun _ _ _ _ _ _ us hl => match us, hl with | [_], _ => rfl
  have F42 := fun_mk (st := s_taken_off) l42 c42 k42
  have B42 := F42.binds (ps := ["stack", "many"]) fun _ _ _ _ _ _ us hl => match us, hl with | [_, _], _ => rfl
  have F43 := fun_mk (st := s_signatures_of) l43 c43 k43
  have B43 := F43.binds (ps := ["program", "table"]) fun _ _ _ _ _ _ us hl => match us, hl with | [_, _], _ => rfl
  have F44 := fun_mk (st := s_check) l44 c44 k44
  have B44 := F44.binds (ps := ["program"]) fun _ _ _ _ _ _ us hl => match us, hl with | [_], _ => rfl
  have F45 := fun_mk (st := s_law_free) l45 c45 k45
  have B45 := F45.binds (ps := ["e"]) fun _ _ _ _ _ _ us hl => match us, hl with | [_], _ => rfl
  have F46 := fun_mk (st := s_law_state) l46 c46 k46
  have B46 := F46.binds (ps := ["script"]) fun _ _ _ _ _ _ us hl => match us, hl with | [_], _ => rfl
  have F47 := fun_mk (st := s_law_draw) l47 c47 k47
  have B47 := F47.binds (ps := ["state", "many"]) fun _ _ _ _ _ _ us hl => match us, hl with | [_, _], _ => rfl
  have F48 := fun_mk (st := s_law_pick) l48 c48 k48
  have B48 := F48.binds (ps := ["state", "row"]) fun _ _ _ _ _ _ us hl => match us, hl with | [_, _], _ => rfl
  have F49 := fun_mk (st := s_law_number) l49 c49 k49
  have B49 := F49.binds (ps := ["state"]) fun _ _ _ _ _ _ us hl => match us, hl with | [_], _ => rfl
  have F50 := fun_mk (st := s_law_kind) l50 c50 k50
  have B50 := F50.binds (ps := ["state", "deep"]) fun _ _ _ _ _ _ us hl => match us, hl with | [_, _], _ => rfl
  have F51 := fun_mk (st := s_law_vars) l51 c51 k51
  have B51 := F51.binds (ps := ["names", "kind"]) fun _ _ _ _ _ _ us hl => match us, hl with | [_, _], _ => rfl
  have F52 := fun_mk (st := s_law_with) l52 c52 k52
  have B52 := F52.binds (ps := ["names", "name", "kind"]) fun _ _ _ _ _ _ us hl => match us, hl with | [_, _, _], _ => rfl
  have F53 := fun_mk (st := s_law_seq) l53 c53 k53
  have B53 := F53.binds (ps := ["state", "program", "names", "kind", "deep"]) fun _ _ _ _ _ _ us hl => match us, hl with | [_, _, _, _, _], _ => rfl
  have F54 := fun_mk (st := s_law_num) l54 c54 k54
  have B54 := F54.binds (ps := ["state", "program", "names", "deep"]) fun _ _ _ _ _ _ us hl => match us, hl with | [_, _, _, _], _ => rfl
  have F55 := fun_mk (st := s_law_leaf) l55 c55 k55
  have B55 := F55.binds (ps := ["state", "names", "kind"]) fun _ _ _ _ _ _ us hl => match us, hl with | [_, _, _], _ => rfl
  have F56 := fun_mk (st := s_law_expr) l56 c56 k56
  have B56 := F56.binds (ps := ["state", "program", "names", "kind", "deep"]) fun _ _ _ _ _ _ us hl => match us, hl with | [_, _, _, _, _], _ => rfl
  have F57 := fun_mk (st := s_law_down) l57 c57 k57
  have B57 := F57.binds (ps := []) fun _ _ _ _ _ _ us hl => match us, hl with | [], _ => rfl
  have F58 := fun_mk (st := s_law_turns) l58 c58 k58
  have B58 := F58.binds (ps := []) fun _ _ _ _ _ _ us hl => match us, hl with | [], _ => rfl
  have F59 := fun_mk (st := s_law_sorted) l59 c59 k59
  have B59 := F59.binds (ps := []) fun _ _ _ _ _ _ us hl => match us, hl with | [], _ => rfl
  have F60 := fun_mk (st := s_law_program) l60 c60 k60
  have B60 := F60.binds (ps := ["state", "deep"]) fun _ _ _ _ _ _ us hl => match us, hl with | [_, _], _ => rfl
  have F61 := fun_mk (st := s_law_told) l61 c61 k61
  have B61 := F61.binds (ps := ["program"]) fun _ _ _ _ _ _ us hl => match us, hl with | [_], _ => rfl
  have F62 := fun_mk (st := s_law_bad) l62 c62 k62
  have B62 := F62.binds (ps := ["state", "good"]) fun _ _ _ _ _ _ us hl => match us, hl with | [_, _], _ => rfl
  have F63 := fun_mk (st := s_law) l63 c63 k63
  have B63 := F63.binds (ps := ["script"]) fun _ _ _ _ _ _ us hl => match us, hl with | [_], _ => rfl
  have TT : TTxt K mg ⟨cKindTable, (f9, _), (f10, _), (f11, _), (f12, _), (f13, _), (f14, _), (f15, _), (f16, _), (f42, _), cKindError⟩ :=
    { cl := ⟨pg_KindTable, hd_KindTable, po_KindTable, sa_KindTable⟩, nS := n_KindTable_shapes, nN := n_KindTable_numbers, gC := PySem.W.mg_of X G g_KindTable, mkk := ⟨mk_KindTable, a9, i9, kc_KindTable⟩, iF := F9, ib := B9,
      number := ⟨F10, ⟨a10, i10, k10⟩, B10⟩, number_of := ⟨F11, ⟨a11, i11, k11⟩, B11⟩, pair := ⟨F12, ⟨a12, i12, k12⟩, B12⟩, seq := ⟨F13, ⟨a13, i13, k13⟩, B13⟩, parts := ⟨F14, ⟨a14, i14, k14⟩, B14⟩, element := ⟨F15, ⟨a15, i15, k15⟩, B15⟩, need := ⟨F16, ⟨a16, i16, k16⟩, B16⟩, taken_off := ⟨F42, PySem.W.mg_of X G a42, B42⟩, len := PySem.W.mg_none_of X G b_len, reversed := PySem.W.mg_none_of X G b_reversed, num := ⟨_, PySem.W.mg_of X G h_NUM, _, rfl⟩, gK := PySem.W.mg_of X G g_KindError, xT := x_KindError, kT := xk_KindError, bT := xb_KindError, tT := xt_KindError }
  have TR : RTxt K mg _ ⟨(f25, _), (f26, _), (f27, _), (f28, _), (f29, _), (f30, _), (f31, _), (f32, _), (f33, _), (f34, _), (f35, _), (f36, _), (f37, _)⟩ := { T := TT, k_let := ⟨F25, PySem.W.mg_of X G a25, B25⟩, k_if := ⟨F26, PySem.W.mg_of X G a26, B26⟩, k_pair := ⟨F27, PySem.W.mg_of X G a27, B27⟩, k_first := ⟨F28, PySem.W.mg_of X G a28, B28⟩, k_second := ⟨F29, PySem.W.mg_of X G a29, B29⟩, k_each := ⟨F30, PySem.W.mg_of X G a30, B30⟩, k_iota := ⟨F31, PySem.W.mg_of X G a31, B31⟩, k_len := ⟨F32, PySem.W.mg_of X G a32, B32⟩, k_at := ⟨F33, PySem.W.mg_of X G a33, B33⟩, k_sum := ⟨F34, PySem.W.mg_of X G a34, B34⟩, k_flat := ⟨F35, PySem.W.mg_of X G a35, B35⟩, k_keep := ⟨F36, PySem.W.mg_of X G a36, B36⟩, k_append := ⟨F37, PySem.W.mg_of X G a37, B37⟩ }
  have TB : BTxt w K mg _ _ ⟨cBodyCheck, (f17, _), (f18, _), (f19, _), (f20, _), (f21, _), (f22, _), (f23, _), (f24, _), dOPERATIONS, dRULES⟩ :=
    { R := TR, cl := ⟨pg_BodyCheck, hd_BodyCheck, po_BodyCheck, sa_BodyCheck⟩, n_table := n_BodyCheck_table, n_signatures := n_BodyCheck_signatures, n_visible := n_BodyCheck_visible, n_done := n_BodyCheck_done, gB := PySem.W.mg_of X G g_BodyCheck, mkk := ⟨mk_BodyCheck, a17, i17, kc_BodyCheck⟩, iF := F17, ib := B17, kind_of_body := ⟨F18, ⟨a18, i18, k18⟩, B18⟩, bind := ⟨F19, ⟨a19, i19, k19⟩, B19⟩, leave := ⟨F20, ⟨a20, i20, k20⟩, B20⟩, kind_of := ⟨F21, ⟨a21, i21, k21⟩, B21⟩, kind_of_variable := ⟨F22, ⟨a22, i22, k22⟩, B22⟩, kind_of_operation := ⟨F23, ⟨a23, i23, k23⟩, B23⟩, kind_of_call := ⟨F24, ⟨a24, i24, k24⟩, B24⟩,
      gO := PySem.W.mg_of X G g_OPERATIONS, oD := ⟨_, _, dl_OPERATIONS, dk_OPERATIONS, oLow⟩, oY := fun s hs => by
        simp only [sgns, List.mem_cons, List.not_mem_nil, or_false] at hs
        rcases hs with rfl | rfl | rfl | rfl | rfl | rfl | rfl | rfl | rfl
        · exact ⟨_, d0_OPERATIONS⟩
        · exact ⟨_, d1_OPERATIONS⟩
        · exact ⟨_, d2_OPERATIONS⟩
        · exact ⟨_, d3_OPERATIONS⟩
        · exact ⟨_, d4_OPERATIONS⟩
        · exact ⟨_, d5_OPERATIONS⟩
        · exact ⟨_, d6_OPERATIONS⟩
        · exact ⟨_, d7_OPERATIONS⟩
        · exact ⟨_, d8_OPERATIONS⟩,
      oN := oN, gR := PySem.W.mg_of X G g_RULES, r_let := ⟨esRULES, nnRULES, _, dl_RULES, dk_RULES, d0_RULES, rfl⟩, r_if := ⟨esRULES, nnRULES, _, dl_RULES, dk_RULES, d1_RULES, rfl⟩, r_pair := ⟨esRULES, nnRULES, _, dl_RULES, dk_RULES, d2_RULES, rfl⟩, r_first := ⟨esRULES, nnRULES, _, dl_RULES, dk_RULES, d3_RULES, rfl⟩, r_second := ⟨esRULES, nnRULES, _, dl_RULES, dk_RULES, d4_RULES, rfl⟩, r_each := ⟨esRULES, nnRULES, _, dl_RULES, dk_RULES, d5_RULES, rfl⟩, r_iota := ⟨esRULES, nnRULES, _, dl_RULES, dk_RULES, d6_RULES, rfl⟩, r_len := ⟨esRULES, nnRULES, _, dl_RULES, dk_RULES, d7_RULES, rfl⟩, r_at := ⟨esRULES, nnRULES, _, dl_RULES, dk_RULES, d8_RULES, rfl⟩, r_sum := ⟨esRULES, nnRULES, _, dl_RULES, dk_RULES, d9_RULES, rfl⟩, r_flat := ⟨esRULES, nnRULES, _, dl_RULES, dk_RULES, d10_RULES, rfl⟩, r_keep := ⟨esRULES, nnRULES, _, dl_RULES, dk_RULES, d11_RULES, rfl⟩, r_append := ⟨esRULES, nnRULES, _, dl_RULES, dk_RULES, d12_RULES, rfl⟩ }
  have TP : PTxt K mg ⟨(f38, _), (f39, _), (f40, _), (f41, _), (f42, _), (f43, _), (f44, _), (f45, _), tBINDERS⟩ :=
    { parts_of := ⟨F38, PySem.W.mg_of X G a38, B38⟩, steps_inside := ⟨F39, PySem.W.mg_of X G a39, B39⟩, steps := ⟨F40, PySem.W.mg_of X G a40, B40⟩, free_names := ⟨F41, PySem.W.mg_of X G a41, B41⟩, taken_off := ⟨F42, PySem.W.mg_of X G a42, B42⟩, signatures_of := ⟨F43, PySem.W.mg_of X G a43, B43⟩, check := ⟨F44, PySem.W.mg_of X G a44, B44⟩, law_free := ⟨F45, PySem.W.mg_of X G a45, B45⟩, list := PySem.W.mg_none_of X G b_list, set := PySem.W.mg_none_of X G b_set, len := PySem.W.mg_none_of X G b_len, sorted := PySem.W.mg_none_of X G b_sorted, reversed := PySem.W.mg_none_of X G b_reversed, isinstance := PySem.W.mg_none_of X G b_isinstance, int := PySem.W.mg_none_of X G b_int, repr := PySem.W.mg_none_of X G b_repr, tuple := PySem.W.mg_none_of X G b_tuple, gBIND := PySem.W.mg_of X G g_BINDERS, bind := (fun H => .inr ⟨_, _, _, tl_BINDERS, rfl, rfl, (by show 2 ≤ sizeLine; decide), (.cons ⟨_, rfl⟩ (.cons ⟨_, rfl⟩ .nil))⟩) }
  have TL : LTxt w K mg _ _ _ _ ⟨(f61, _), cFlatError, cTrapError⟩ :=
    { B := TB, PT_ := TP, law_told := ⟨F61, PySem.W.mg_of X G a61, B61⟩, isinstance := PySem.W.mg_none_of X G b_isinstance, int := PySem.W.mg_none_of X G b_int, gF := PySem.W.mg_of X G g_FlatError, gT := PySem.W.mg_of X G g_TrapError, iK := xi_KindError, sK := xs_KindError, eK := ⟨e1_KindError, e2_KindError, xb_KindError, e4_KindError, e5_KindError, e6_KindError, e7_KindError, e8_KindError⟩, yF := yF, yT := yT }
  have TG : GTxt K mg ⟨(f46, _), (f47, _), (f48, _), (f49, _), (f50, _), (f51, _), (f52, _), (f53, _), (f54, _), (f55, _), (f56, _), (f57, _), (f58, _), (f59, _), (f60, _)⟩ :=
    { law_state := ⟨F46, PySem.W.mg_of X G a46, B46⟩, law_draw := ⟨F47, PySem.W.mg_of X G a47, B47⟩, law_pick := ⟨F48, PySem.W.mg_of X G a48, B48⟩, law_number := ⟨F49, PySem.W.mg_of X G a49, B49⟩, law_kind := ⟨F50, PySem.W.mg_of X G a50, B50⟩, law_vars := ⟨F51, PySem.W.mg_of X G a51, B51⟩, law_with := ⟨F52, PySem.W.mg_of X G a52, B52⟩, law_seq := ⟨F53, PySem.W.mg_of X G a53, B53⟩, law_num := ⟨F54, PySem.W.mg_of X G a54, B54⟩, law_leaf := ⟨F55, PySem.W.mg_of X G a55, B55⟩, law_expr := ⟨F56, PySem.W.mg_of X G a56, B56⟩, law_down := ⟨F57, PySem.W.mg_of X G a57, B57⟩, law_turns := ⟨F58, PySem.W.mg_of X G a58, B58⟩, law_sorted := ⟨F59, PySem.W.mg_of X G a59, B59⟩, law_program := ⟨F60, PySem.W.mg_of X G a60, B60⟩, len := PySem.W.mg_none_of X G b_len, abs := PySem.W.mg_none_of X G b_abs, int := PySem.W.mg_none_of X G b_int, min := PySem.W.mg_none_of X G b_min, sorted := PySem.W.mg_none_of X G b_sorted, range := PySem.W.mg_none_of X G b_range, str := PySem.W.mg_none_of X G b_str }
  have T : ZTxt w K mg _ _ _ _ _ _ ⟨(f62, _), (_, _)⟩ := { G := TG, L := TL, law_bad := ⟨F62, PySem.W.mg_of X G a62, B62⟩, law := ⟨F63, PySem.W.mg_of X G a63, B63⟩ }
  exact ⟨_, fun s v => .of_eq rfl, fun base _ _ => ok_law T⟩
end K2
open PySem PySem.W PyProof.Rows
set_option maxRecDepth 100000 in
set_option maxHeartbeats 0 in
theorem PySem.Challenge.cw_flatsheaves_k02_kinds_holds : PySem.Challenge.rw_flatsheaves_k02_kinds.Holds := by
  w_on; o_law; k_head; (case hw => w_witness2)
  k_fill
  refine GX.walkG (l := PySem.Challenge.rw_flatsheaves_k02_kinds) (n := 63) (k := 45) (x := "script") (cx := fun w => L2.CX0) (sp := fun w => K2.spLaw _) rfl (by decide) rfl ⟨rfl, by decide, by decide⟩ (fun w h Y => PySem.W.kIn_of Y) ?F (fun _ _ a ns hl hS => ⟨a, ns, rfl, hS, hl, fun _ => rfl⟩) fun _ _ _ _ _ z => z
  case F =>
    intro w mg fa h KX G hmg
    refine' K2.all_mk KX G hmg ?hha0 ?hhl0 ?hhc0 ?hhk0 ?hha1 ?hhl1 ?hhc1 ?hhk1 ?hha2 ?hhl2 ?hhc2 ?hhk2 ?hha3 ?hhl3 ?hhc3 ?hhk3 ?hha4 ?hhl4 ?hhc4 ?hhk4 ?hha5 ?hhl5 ?hhc5 ?hhk5 ?hha6 ?hhl6 ?hhc6 ?hhk6 ?hha7 ?hhl7 ?hhc7 ?hhk7 ?hha8 ?hhl8 ?hhc8 ?hhk8 ?hhg_FlatError ?hhg_TrapError ?hhg_KindError ?hhx_KindError ?hhxk_KindError ?hhxb_KindError ?hhxt_KindError ?hhxi_KindError ?hhxs_KindError ?hhe1_KindError ?hhe2_KindError ?hhe4_KindError ?hhe5_KindError ?hhe6_KindError ?hhe7_KindError ?hhe8_KindError ?hhyF ?hhyT ?hhg_KindTable ?hhpg_KindTable ?hhhd_KindTable ?hhpo_KindTable ?hhsa_KindTable ?hhmk_KindTable ?hhkc_KindTable ?hhn_KindTable_shapes ?hhn_KindTable_numbers ?hha9 ?hhi9 ?hhl9 ?hhc9 ?hhk9 ?hha10 ?hhi10 ?hhl10 ?hhc10 ?hhk10 ?hha11 ?hhi11 ?hhl11 ?hhc11 ?hhk11 ?hha12 ?hhi12 ?hhl12 ?hhc12 ?hhk12 ?hha13 ?hhi13 ?hhl13 ?hhc13 ?hhk13 ?hha14 ?hhi14 ?hhl14 ?hhc14 ?hhk14 ?hha15 ?hhi15 ?hhl15 ?hhc15 ?hhk15 ?hha16 ?hhi16 ?hhl16 ?hhc16 ?hhk16 ?hhg_BodyCheck ?hhpg_BodyCheck ?hhhd_BodyCheck ?hhpo_BodyCheck ?hhsa_BodyCheck ?hhmk_BodyCheck ?hhkc_BodyCheck ?hhn_BodyCheck_table ?hhn_BodyCheck_signatures ?hhn_BodyCheck_visible ?hhn_BodyCheck_done ?hha17 ?hhi17 ?hhl17 ?hhc17 ?hhk17 ?hha18 ?hhi18 ?hhl18 ?hhc18 ?hhk18 ?hha19 ?hhi19 ?hhl19 ?hhc19 ?hhk19 ?hha20 ?hhi20 ?hhl20 ?hhc20 ?hhk20 ?hha21 ?hhi21 ?hhl21 ?hhc21 ?hhk21 ?hha22 ?hhi22 ?hhl22 ?hhc22 ?hhk22 ?hha23 ?hhi23 ?hhl23 ?hhc23 ?hhk23 ?hha24 ?hhi24 ?hhl24 ?hhc24 ?hhk24 ?hha25 ?hhl25 ?hhc25 ?hhk25 ?hha26 ?hhl26 ?hhc26 ?hhk26 ?hha27 ?hhl27 ?hhc27 ?hhk27 ?hha28 ?hhl28 ?hhc28 ?hhk28 ?hha29 ?hhl29 ?hhc29 ?hhk29 ?hha30 ?hhl30 ?hhc30 ?hhk30 ?hha31 ?hhl31 ?hhc31 ?hhk31 ?hha32 ?hhl32 ?hhc32 ?hhk32 ?hha33 ?hhl33 ?hhc33 ?hhk33 ?hha34 ?hhl34 ?hhc34 ?hhk34 ?hha35 ?hhl35 ?hhc35 ?hhk35 ?hha36 ?hhl36 ?hhc36 ?hhk36 ?hha37 ?hhl37 ?hhc37 ?hhk37 ?hha38 ?hhl38 ?hhc38 ?hhk38 ?hha39 ?hhl39 ?hhc39 ?hhk39 ?hha40 ?hhl40 ?hhc40 ?hhk40 ?hha41 ?hhl41 ?hhc41 ?hhk41 ?hha42 ?hhl42 ?hhc42 ?hhk42 ?hha43 ?hhl43 ?hhc43 ?hhk43 ?hha44 ?hhl44 ?hhc44 ?hhk44 ?hha45 ?hhl45 ?hhc45 ?hhk45 ?hha46 ?hhl46 ?hhc46 ?hhk46 ?hha47 ?hhl47 ?hhc47 ?hhk47 ?hha48 ?hhl48 ?hhc48 ?hhk48 ?hha49 ?hhl49 ?hhc49 ?hhk49 ?hha50 ?hhl50 ?hhc50 ?hhk50 ?hha51 ?hhl51 ?hhc51 ?hhk51 ?hha52 ?hhl52 ?hhc52 ?hhk52 ?hha53 ?hhl53 ?hhc53 ?hhk53 ?hha54 ?hhl54 ?hhc54 ?hhk54 ?hha55 ?hhl55 ?hhc55 ?hhk55 ?hha56 ?hhl56 ?hhc56 ?hhk56 ?hha57 ?hhl57 ?hhc57 ?hhk57 ?hha58 ?hhl58 ?hhc58 ?hhk58 ?hha59 ?hhl59 ?hhc59 ?hhk59 ?hha60 ?hhl60 ?hhc60 ?hhk60 ?hha61 ?hhl61 ?hhc61 ?hhk61 ?hha62 ?hhl62 ?hhc62 ?hhk62 ?hha63 ?hhl63 ?hhc63 ?hhk63 ?hhb_abs ?hhb_int ?hhb_isinstance ?hhb_len ?hhb_list ?hhb_min ?hhb_range ?hhb_repr ?hhb_reversed ?hhb_set ?hhb_sorted ?hhb_str ?hhb_tuple ?hhh_NUM ?hhg_OPERATIONS ?hhdl_OPERATIONS ?hhdk_OPERATIONS ?hhd0_OPERATIONS ?hhd1_OPERATIONS ?hhd2_OPERATIONS ?hhd3_OPERATIONS ?hhd4_OPERATIONS ?hhd5_OPERATIONS ?hhd6_OPERATIONS ?hhd7_OPERATIONS ?hhd8_OPERATIONS ?hhoN ?hhoLow ?hhg_RULES ?hhdl_RULES ?hhdk_RULES ?hhd0_RULES ?hhd1_RULES ?hhd2_RULES ?hhd3_RULES ?hhd4_RULES ?hhd5_RULES ?hhd6_RULES ?hhd7_RULES ?hhd8_RULES ?hhd9_RULES ?hhd10_RULES ?hhd11_RULES ?hhd12_RULES ?hhg_BINDERS ?hhtl_BINDERS
    (case hha0 => k_is)
    (case hhl0 => k_is)
    (case hhc0 => k_is)
    (case hhk0 => k_is)
    (case hha1 => k_is)
    (case hhl1 => k_is)
    (case hhc1 => k_is)
    (case hhk1 => k_is)
    (case hha2 => k_is)
    (case hhl2 => k_is)
    (case hhc2 => k_is)
    (case hhk2 => k_is)
    (case hha3 => k_is)
    (case hhl3 => k_is)
    (case hhc3 => k_is)
    (case hhk3 => k_is)
    (case hha4 => k_is)
    (case hhl4 => k_is)
    (case hhc4 => k_is)
    (case hhk4 => k_is)
    (case hha5 => k_is)
    (case hhl5 => k_is)
    (case hhc5 => k_is)
    (case hhk5 => k_is)
    (case hha6 => k_is)
    (case hhl6 => k_is)
    (case hhc6 => k_is)
    (case hhk6 => k_is)
    (case hha7 => k_is)
    (case hhl7 => k_is)
    (case hhc7 => k_is)
    (case hhk7 => k_is)
    (case hha8 => k_is)
    (case hhl8 => k_is)
    (case hhc8 => k_is)
    (case hhk8 => k_is)
    (case hhg_FlatError => k_is)
    (case hhg_TrapError => k_is)
    (case hhg_KindError => k_is)
    (case hhx_KindError => k_exc)
    (case hhxk_KindError => k_is)
    (case hhxb_KindError => k_is)
    (case hhxt_KindError => k_is)
    (case hhxi_KindError => k_is)
    (case hhxs_KindError => k_is)
    (case hhe1_KindError => k_is)
    (case hhe2_KindError => k_is)
    (case hhe4_KindError => k_is)
    (case hhe5_KindError => k_is)
    (case hhe6_KindError => k_is)
    (case hhe7_KindError => k_is)
    (case hhe8_KindError => k_is)
    (case hhyF => kit_is)
    (case hhyT => kit_is)
    (case hhg_KindTable => k_is)
    (case hhpg_KindTable => k_is)
    (case hhhd_KindTable => k_is)
    (case hhpo_KindTable => k_is)
    (case hhsa_KindTable => k_is)
    (case hhmk_KindTable => k_is)
    (case hhkc_KindTable => k_is)
    (case hhn_KindTable_shapes => k_is)
    (case hhn_KindTable_numbers => k_is)
    (case hha9 => k_is)
    (case hhi9 => k_is)
    (case hhl9 => k_is)
    (case hhc9 => k_is)
    (case hhk9 => k_is)
    (case hha10 => k_is)
    (case hhi10 => k_is)
    (case hhl10 => k_is)
    (case hhc10 => k_is)
    (case hhk10 => k_is)
    (case hha11 => k_is)
    (case hhi11 => k_is)
    (case hhl11 => k_is)
    (case hhc11 => k_is)
    (case hhk11 => k_is)
    (case hha12 => k_is)
    (case hhi12 => k_is)
    (case hhl12 => k_is)
    (case hhc12 => k_is)
    (case hhk12 => k_is)
    (case hha13 => k_is)
    (case hhi13 => k_is)
    (case hhl13 => k_is)
    (case hhc13 => k_is)
    (case hhk13 => k_is)
    (case hha14 => k_is)
    (case hhi14 => k_is)
    (case hhl14 => k_is)
    (case hhc14 => k_is)
    (case hhk14 => k_is)
    (case hha15 => k_is)
    (case hhi15 => k_is)
    (case hhl15 => k_is)
    (case hhc15 => k_is)
    (case hhk15 => k_is)
    (case hha16 => k_is)
    (case hhi16 => k_is)
    (case hhl16 => k_is)
    (case hhc16 => k_is)
    (case hhk16 => k_is)
    (case hhg_BodyCheck => k_is)
    (case hhpg_BodyCheck => k_is)
    (case hhhd_BodyCheck => k_is)
    (case hhpo_BodyCheck => k_is)
    (case hhsa_BodyCheck => k_is)
    (case hhmk_BodyCheck => k_is)
    (case hhkc_BodyCheck => k_is)
    (case hhn_BodyCheck_table => k_is)
    (case hhn_BodyCheck_signatures => k_is)
    (case hhn_BodyCheck_visible => k_is)
    (case hhn_BodyCheck_done => k_is)
    (case hha17 => k_is)
    (case hhi17 => k_is)
    (case hhl17 => k_is)
    (case hhc17 => k_is)
    (case hhk17 => k_is)
    (case hha18 => k_is)
    (case hhi18 => k_is)
    (case hhl18 => k_is)
    (case hhc18 => k_is)
    (case hhk18 => k_is)
    (case hha19 => k_is)
    (case hhi19 => k_is)
    (case hhl19 => k_is)
    (case hhc19 => k_is)
    (case hhk19 => k_is)
    (case hha20 => k_is)
    (case hhi20 => k_is)
    (case hhl20 => k_is)
    (case hhc20 => k_is)
    (case hhk20 => k_is)
    (case hha21 => k_is)
    (case hhi21 => k_is)
    (case hhl21 => k_is)
    (case hhc21 => k_is)
    (case hhk21 => k_is)
    (case hha22 => k_is)
    (case hhi22 => k_is)
    (case hhl22 => k_is)
    (case hhc22 => k_is)
    (case hhk22 => k_is)
    (case hha23 => k_is)
    (case hhi23 => k_is)
    (case hhl23 => k_is)
    (case hhc23 => k_is)
    (case hhk23 => k_is)
    (case hha24 => k_is)
    (case hhi24 => k_is)
    (case hhl24 => k_is)
    (case hhc24 => k_is)
    (case hhk24 => k_is)
    (case hha25 => k_is)
    (case hhl25 => k_is)
    (case hhc25 => k_is)
    (case hhk25 => k_is)
    (case hha26 => k_is)
    (case hhl26 => k_is)
    (case hhc26 => k_is)
    (case hhk26 => k_is)
    (case hha27 => k_is)
    (case hhl27 => k_is)
    (case hhc27 => k_is)
    (case hhk27 => k_is)
    (case hha28 => k_is)
    (case hhl28 => k_is)
    (case hhc28 => k_is)
    (case hhk28 => k_is)
    (case hha29 => k_is)
    (case hhl29 => k_is)
    (case hhc29 => k_is)
    (case hhk29 => k_is)
    (case hha30 => k_is)
    (case hhl30 => k_is)
    (case hhc30 => k_is)
    (case hhk30 => k_is)
    (case hha31 => k_is)
    (case hhl31 => k_is)
    (case hhc31 => k_is)
    (case hhk31 => k_is)
    (case hha32 => k_is)
    (case hhl32 => k_is)
    (case hhc32 => k_is)
    (case hhk32 => k_is)
    (case hha33 => k_is)
    (case hhl33 => k_is)
    (case hhc33 => k_is)
    (case hhk33 => k_is)
    (case hha34 => k_is)
    (case hhl34 => k_is)
    (case hhc34 => k_is)
    (case hhk34 => k_is)
    (case hha35 => k_is)
    (case hhl35 => k_is)
    (case hhc35 => k_is)
    (case hhk35 => k_is)
    (case hha36 => k_is)
    (case hhl36 => k_is)
    (case hhc36 => k_is)
    (case hhk36 => k_is)
    (case hha37 => k_is)
    (case hhl37 => k_is)
    (case hhc37 => k_is)
    (case hhk37 => k_is)
    (case hha38 => k_is)
    (case hhl38 => k_is)
    (case hhc38 => k_is)
    (case hhk38 => k_is)
    (case hha39 => k_is)
    (case hhl39 => k_is)
    (case hhc39 => k_is)
    (case hhk39 => k_is)
    (case hha40 => k_is)
    (case hhl40 => k_is)
    (case hhc40 => k_is)
    (case hhk40 => k_is)
    (case hha41 => k_is)
    (case hhl41 => k_is)
    (case hhc41 => k_is)
    (case hhk41 => k_is)
    (case hha42 => k_is)
    (case hhl42 => k_is)
    (case hhc42 => k_is)
    (case hhk42 => k_is)
    (case hha43 => k_is)
    (case hhl43 => k_is)
    (case hhc43 => k_is)
    (case hhk43 => k_is)
    (case hha44 => k_is)
    (case hhl44 => k_is)
    (case hhc44 => k_is)
    (case hhk44 => k_is)
    (case hha45 => k_is)
    (case hhl45 => k_is)
    (case hhc45 => k_is)
    (case hhk45 => k_is)
    (case hha46 => k_is)
    (case hhl46 => k_is)
    (case hhc46 => k_is)
    (case hhk46 => k_is)
    (case hha47 => k_is)
    (case hhl47 => k_is)
    (case hhc47 => k_is)
    (case hhk47 => k_is)
    (case hha48 => k_is)
    (case hhl48 => k_is)
    (case hhc48 => k_is)
    (case hhk48 => k_is)
    (case hha49 => k_is)
    (case hhl49 => k_is)
    (case hhc49 => k_is)
    (case hhk49 => k_is)
    (case hha50 => k_is)
    (case hhl50 => k_is)
    (case hhc50 => k_is)
    (case hhk50 => k_is)
    (case hha51 => k_is)
    (case hhl51 => k_is)
    (case hhc51 => k_is)
    (case hhk51 => k_is)
    (case hha52 => k_is)
    (case hhl52 => k_is)
    (case hhc52 => k_is)
    (case hhk52 => k_is)
    (case hha53 => k_is)
    (case hhl53 => k_is)
    (case hhc53 => k_is)
    (case hhk53 => k_is)
    (case hha54 => k_is)
    (case hhl54 => k_is)
    (case hhc54 => k_is)
    (case hhk54 => k_is)
    (case hha55 => k_is)
    (case hhl55 => k_is)
    (case hhc55 => k_is)
    (case hhk55 => k_is)
    (case hha56 => k_is)
    (case hhl56 => k_is)
    (case hhc56 => k_is)
    (case hhk56 => k_is)
    (case hha57 => k_is)
    (case hhl57 => k_is)
    (case hhc57 => k_is)
    (case hhk57 => k_is)
    (case hha58 => k_is)
    (case hhl58 => k_is)
    (case hhc58 => k_is)
    (case hhk58 => k_is)
    (case hha59 => k_is)
    (case hhl59 => k_is)
    (case hhc59 => k_is)
    (case hhk59 => k_is)
    (case hha60 => k_is)
    (case hhl60 => k_is)
    (case hhc60 => k_is)
    (case hhk60 => k_is)
    (case hha61 => k_is)
    (case hhl61 => k_is)
    (case hhc61 => k_is)
    (case hhk61 => k_is)
    (case hha62 => k_is)
    (case hhl62 => k_is)
    (case hhc62 => k_is)
    (case hhk62 => k_is)
    (case hha63 => k_is)
    (case hhl63 => k_is)
    (case hhc63 => k_is)
    (case hhk63 => k_is)
    (case hhb_abs => k_is)
    (case hhb_int => k_is)
    (case hhb_isinstance => k_is)
    (case hhb_len => k_is)
    (case hhb_list => k_is)
    (case hhb_min => k_is)
    (case hhb_range => k_is)
    (case hhb_repr => k_is)
    (case hhb_reversed => k_is)
    (case hhb_set => k_is)
    (case hhb_sorted => k_is)
    (case hhb_str => k_is)
    (case hhb_tuple => k_is)
    (case hhh_NUM => k_is)
    (case hhg_OPERATIONS => k_is)
    (case hhdl_OPERATIONS => k_is)
    (case hhdk_OPERATIONS => exact ⟨⟨_, _, rfl, rfl⟩, ⟨_, _, rfl, rfl⟩, ⟨_, _, rfl, rfl⟩, ⟨_, _, rfl, rfl⟩, ⟨_, _, rfl, rfl⟩, ⟨_, _, rfl, rfl⟩, ⟨_, _, rfl, rfl⟩, ⟨_, _, rfl, rfl⟩, ⟨_, _, rfl, rfl⟩, trivial⟩)
    (case hhd0_OPERATIONS => k_is)
    (case hhd1_OPERATIONS => k_is)
    (case hhd2_OPERATIONS => k_is)
    (case hhd3_OPERATIONS => k_is)
    (case hhd4_OPERATIONS => k_is)
    (case hhd5_OPERATIONS => k_is)
    (case hhd6_OPERATIONS => k_is)
    (case hhd7_OPERATIONS => k_is)
    (case hhd8_OPERATIONS => k_is)
    (case hhoN => k_is)
    (case hhoLow => exact rfl)
    (case hhg_RULES => k_is)
    (case hhdl_RULES => k_is)
    (case hhdk_RULES => exact ⟨⟨_, _, rfl, rfl⟩, ⟨_, _, rfl, rfl⟩, ⟨_, _, rfl, rfl⟩, ⟨_, _, rfl, rfl⟩, ⟨_, _, rfl, rfl⟩, ⟨_, _, rfl, rfl⟩, ⟨_, _, rfl, rfl⟩, ⟨_, _, rfl, rfl⟩, ⟨_, _, rfl, rfl⟩, ⟨_, _, rfl, rfl⟩, ⟨_, _, rfl, rfl⟩, ⟨_, _, rfl, rfl⟩, ⟨_, _, rfl, rfl⟩, trivial⟩)
    (case hhd0_RULES => k_is)
    (case hhd1_RULES => k_is)
    (case hhd2_RULES => k_is)
    (case hhd3_RULES => k_is)
    (case hhd4_RULES => k_is)
    (case hhd5_RULES => k_is)
    (case hhd6_RULES => k_is)
    (case hhd7_RULES => k_is)
    (case hhd8_RULES => k_is)
    (case hhd9_RULES => k_is)
    (case hhd10_RULES => k_is)
    (case hhd11_RULES => k_is)
    (case hhd12_RULES => k_is)
    (case hhg_BINDERS => k_is)
    (case hhtl_BINDERS => k_is)
#print axioms PySem.Challenge.cw_flatsheaves_k02_kinds_holds

