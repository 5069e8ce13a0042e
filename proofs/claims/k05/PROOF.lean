import PyProof.Rows.All
import Wide.All
import OpenK.AllK
import Wide.FinOn
import PyProof.ReprRoads
import HandS.ForMost
import HandS.ForExc
import HandS.Conv
import HandS.OwnIter
import KE.KDictZip
import HandS.Style
import PyProof.ReprLen
import PyProof.RulesMatch
import PyProof.ListCopy
import PyProof.Rows.SetFrom
import HandS.Wide
import HandS.ExcIs
import HandS.IsInst
import HandS.CallLocal
import HandS.More
import HandS.Set
import HandS.SetKeys
import HandS.Walk
import HandS.FStr
import HandS.Small
import HandS.Star
import PyProof.Rows.SortShellAny
import PySem.Challenge.RW_flatsheaves_k05_layouts
set_option Elab.async false
set_option linter.all false
set_option maxRecDepth 100000
set_option maxHeartbeats 4000000
namespace GX
open PySem PySem.Spec PyProof.Rows L2
/-! ### defs that show data by repr: no text is being shown around them -/
structure FnG (P : Program) (w : World) (K : PySem.W.Frag) (mg : Str → Option Value) (base : Heap) (cx : CXT) (k : Nat) (f : Addr) (fd : FuncData) (ps : List Str) (sp : Sp) : Prop where
  len : ∀ {vs H Q E}, sp vs H Q E → vs.length = ps.length
  run : ∀ {A : Around} {outer : List Env} {s : Shared} {H : Hp} {g : Args} {us : List Value} {vs : List V} {Q : VK} {E : XK}, A.guards = some [] → Room k A → Env0 P w K mg base A outer s H →
    BindsTo s fd g (ps.zip us) → Vals vs us → sp vs H Q E → codeAny (model P w) A (.call (.ref f) g) (CR cx outer P w H s Q E) s
theorem ce_end {P : Program} {w : World} {K : PySem.W.Frag} {mg : Str → Option Value} {base : Heap} {N : List Str} {q : Str} {sc : Scope} {f : Addr} {cd : Value} {A : Around} {outer : List Env} {s s' : Shared} {H H' : Hp} {E : XK} {cx : CXT} {σ : L2.St} {v : V} {u : Value} {Q : VK}
    (I : Inv (cxOf cx P w K mg base N q sc f cd A outer s H E) [] σ H' s') (r : RelV v u) (z : Q v H') : CE outer P w H s Q u s' := ⟨v, H', I.os, I.bare, I.base, I.hok, r, z⟩
section
variable {P : Program} {w : World} {K : PySem.W.Frag} {mg : Str → Option Value} {base : Heap} {cx : CXT} {k : Nat} {f : Addr} {fd : FuncData} {N ps : List Str} {sp : Sp} {x qual : Str} {st : Stmt}
theorem fnG (F : Fun K x qual st f fd) (S : FnScope N ps (defScope st)) (len : ∀ vs H Q E, sp vs H Q E → vs.length = ps.length)
    (body : ∀ (cdv : Value) (A : Around) (outer : List Env) (s : Shared) (H : Hp) (vs : List V) (Q : VK) (E : XK), (A.deeper (envOfC qual (defScope st) s.heap.objs.size f cdv)).guards = some [] → Room k (A.deeper (envOfC qual (defScope st) s.heap.objs.size f cdv)) → sp vs H Q E →
      ∃ t, PSs (cxOf cx P w K mg base N qual (defScope st) f cdv A outer s H E) (defBody st) t ∧ t { nx := fun _ H' => Q .non H', rt := Q } (start N vs) H) : FnG P w K mg base cx (k + 1) f fd ps sp := by
  obtain ⟨_, _, _, _, _, _, cdv, _, _, rfl, lk, hcd⟩ := F.ex
  constructor
  · intro vs H Q E h; exact len _ _ _ _ h
  intro A outer s H g us vs Q E hg hr e0 hb r h
  have KX : K.In s.heap := e0.mod.kin.keeps fun b o e => (e0.bs b o e).1
  have kinds : ∀ y ∈ ps.zip us, (defScope st).names.lookup y.1 = some .local ∨ ((defScope st).names.lookup y.1 = some .cell ∧ ((cellsFrom (s.heap.objs.size + 1) (defScope st).names []).lookup y.1).isSome = true) := by
    rintro ⟨n, v⟩ hy
    exact (S.par n (List.of_mem_zip hy).1).imp_right fun q => ⟨q, PySem.W.cellsFrom_some _ _ _ (.inl q)⟩
  refine codeAny_call_function hr.depth (KX _ _ lk) rfl S.co S.gen rfl (PySem.W.codeRec_of KX hcd) (hb _ _ _ _ (wpAny_newFunctionEnv_cells S.kind kinds ?_))
  rintro env rfl s1 z
  refine ⟨(e0.mod.nolimit.keeps fun b o e => (e0.bs b o e).1).keeps z.toInCall.keep, codeAny_func ?_⟩
  obtain ⟨t, ht, hq⟩ := body cdv A outer s H vs Q E hg (hr.deeper _) h
  refine wpAny_mono (ht.run [] s1 (start N vs) H _ (inv_start S hr.hd e0 (len _ _ _ _ h) r z) hq) ?_ fun _ _ y => y
  intro fl s' y
  cases fl with
  | next => exact let ⟨_, _, J, q⟩ := y; ce_end (v := V.non) (u := Value.none) J rfl q
  | ret u => exact let ⟨_, _, _, J, rv, q⟩ := y; ce_end J rv q
  | brk => exact let ⟨_, _, _, q⟩ := y; False.elim q
  | cont => exact let ⟨_, _, _, q⟩ := y; False.elim q
end
section
variable {X : Cx} {cx : CXT} {k : Nat} {f : Addr} {fd : FuncData} {ps : List Str} {sp : Sp} {E : XK} {x : Str} {p pos : Pos} {e : Expr} {es : List Expr} {t : TA}
theorem pe_callG (F : FnG X.prog X.w X.K X.mg X.base cx k f fd ps sp) (hg0 : X.A.guards = some []) (hr : Room k X.A) (hg : Gl X x) (hm : X.mg x = some (.ref f)) (hk : PySem.W.keepIn X.K (.ref f) = true) (hb : Binds X.K fd ps []) (hx : Passes cx X E)
    (ha : PA X (e :: es) t) (hdb : (x == ("__debug__" : Str)) = false := by decide) (he : starEach (e :: es) X.env = (false, eval e X.env) :: starEach es X.env := by rfl) (hpl : (backTo pos (starEach es X.env)).any (·.1) = false := by rfl) :
    PE X (.Call (.Name x p) (e :: es) [] pos) (tCall sp [] E t) := by
  constructor
  intro pins s σ H Q I h
  refine wpAny_Call_Name_kw (ld_glob I hg hm (PySem.W.callWith_K (h₀ := X.base) I.ok.mod.kin hk (thn (ha.run pos pins s σ H _ I h) ?_) he hpl) hdb)
  rintro us s1 ⟨vs, H1, J, r, q⟩
  rw [List.append_nil] at q
  refine ⟨J.kIn, wpAny_call (codeAny_mono (F.run hg0 hr J.env0 (by simpa using hb s1 us J.kIn (by rw [List.append_nil, ← r.length]; exact F.len q)) r q) ?_)⟩
  intro res s' y
  match res, y with
  | .error err, y => exact hx pins σ H1 s1 err s' J y
  | .ok (.ret u), y => exact J.after y
  | .ok .next, y => exact False.elim y
  | .ok .brk, y => exact False.elim y
  | .ok .cont, y => exact False.elim y
/-- repr of lists and tuples of data -/
def rReprD (K : PySem.W.Frag) : List V → Hp → VK → Prop := fun xs H Q => ∃ (a : Addr) (d : PyData), xs = [.ref a] ∧ Dp K H (.ref a) d ∧ d.showable = true ∧ d.hasDict = false ∧ d.depth ≤ 60 ∧ d.shown.length ≤ sizeLine ∧ Q (.str d.shown) H
theorem call_reprD (hg : X.A.guards = some []) (hu : X.A.units + 64 < cLine) : CallR X (.builtin "repr") (rReprD X.K) := by
  intro pins s σ H xs us Q I r h
  obtain ⟨a, d, rfl, hd, h1, h2, h3, h4, q⟩ := h
  obtain ⟨u, rfl, rfl⟩ := vals1 r
  obtain ⟨as, hR⟩ := Dp.reads I d _ _ hd (rfl : RelV (.ref a) (.ref a))
  refine repr_of_reads' hR h1 (fun z => by rw [h2] at z; cases z) hg (by omega) (fun _ _ e => e) (fun h' u tk hk => ?_) h4
  exact ⟨.str d.shown, H, I.un (Un.kept hk) (I.hok.kept hk), ⟨u, rfl⟩, q⟩
end
/-! ### the law's end -/
theorem law_callG {P : Program} {w : World} {K : PySem.W.Frag} {mg mb : Str → Option Value} {cx : CXT} {k : Nat} {fa a : Addr} {fd : FuncData} {x : Str} {sp : Sp} {s : Shared} {vs : List Value} {ns : List Int}
    (KX : K.In s.heap) (hns : s.heap.Ns mainGlobals mg) (hb : s.heap.Ns builtinsNs mb) (hbb : ∀ x : Str, x ≠ "__name__" → mb x = bootBuiltins x) (hlim : s.heap.NoLimit) (hgens : s.gens = #[])
    (ha : s.heap.get? a = some { cls := .type "list", data := .seq vs.toArray }) (hi : IntsAre vs ns) (hl : ns.length ≤ sizeLine) (hr : Room k callerA)
    (F : ∀ base : Heap, K.In base → base.Ns mainGlobals mg → FnG P w K mg base cx k fa fd [x] sp) (hbind : ∀ (s : Shared) (u : Value), BindsTo s fd ⟨[u], []⟩ [(x, u)])
    (hsp : ∀ H : Hp, Only H → SqL K H a (ns.map V.int) → sp [.ref a] H (fun v _ => v = .bl true) fun _ _ _ => False)
    (hcx : ∀ H e s', cx [] H s (fun _ _ _ => False) e s' → False) :
    codeAny (model P w) callerA (.call (.ref fa) ⟨[.ref a], []⟩) (fun r s' => r = .ok (.ret (.bool true)) ∧ OldK s.heap s'.heap ∧ s'.os = s.os ∧ AllBare s'.gens) s := by
  have rv := vals_ints hi
  -- the heap: the script alone, where it is no object of the module's own
  have go : ∀ H : Hp, (∀ b u, H b = some u → b = a ∧ K.lookup a = none ∧ ∃ ob xs, u = .frz ob (.lst xs)) → SqL K H a (ns.map V.int) → HOk P w H s.heap →
      codeAny (model P w) callerA (.call (.ref fa) ⟨[.ref a], []⟩) (fun r s' => r = .ok (.ret (.bool true)) ∧ OldK s.heap s'.heap ∧ s'.os = s.os ∧ AllBare s'.gens) s := by
    intro H own hS hok
    have bare : ∀ {b : Addr}, b ≠ a → H b = none := fun {b} n => by
      cases e : H b with
      | none => rfl
      | some u => exact absurd (own b u e).1 n
    have dict : ∀ {b : Addr} {o : Obj} {es : Array DictEntry} {ep : Nat}, s.heap.get? b = some o → o.data = .dict es ep → H b = none := fun {b o es ep} e d => bare fun z => by
      rw [z, ha] at e
      cases e
      exact (nomatch (show Data.seq vs.toArray _ = Data.dict es ep from d))
    have nsB : ∀ {b : Addr} {m : Str → Option Value}, s.heap.Ns b m → (hidT s.heap H).Ns b m := fun {b m} z => by
      obtain ⟨o, es, ep, e, d, r⟩ := z
      exact ⟨o, es, ep, hidT_get e (dict e d), d, r⟩
    have kB : K.In (hidT s.heap H) := fun b o e => hidT_get (KX b o e) (by
      cases q : H b with
      | none => rfl
      | some u =>
        obtain ⟨rfl, n, _⟩ := own b u q
        rw [n] at e
        cases e)
    obtain ⟨mc, c1, c2⟩ := hlim
    have e0 : Env0 P w K mg (hidT s.heap H) callerA [] s H :=
      { frames := rfl, mod := ⟨kB, nsB hns, ⟨mb, nsB hb, hbb⟩, mc, nsB c1, c2⟩, bs := fun b o e => of_hidT e, bsz := Nat.le_of_eq (hidT_size _ _), funs := trivial, frf := fun b z => (nomatch (show b ∈ ([] : List Addr) from z)), hok := hok, bare := .of_eq hgens }
    have only : Only H := fun b => by
      cases e : H b with
      | none => exact .inl rfl
      | some u =>
        obtain ⟨_, _, ob, xs, rfl⟩ := own b u e
        exact .inr ⟨ob, xs, rfl⟩
    refine codeAny_mono ((F _ kB (nsB hns)).run (A := callerA) (us := [.ref a]) rfl hr e0 (hbind s (.ref a)) (.cons (show RelV (.ref a) (.ref a) from rfl) .nil) (hsp H only hS)) ?_
    intro res s' y
    match res, y with
    | .error err, y => exact (hcx H err s' y).elim
    | .ok .next, y => exact False.elim y
    | .ok .brk, y => exact False.elim y
    | .ok .cont, y => exact False.elim y
    | .ok (.ret u), y =>
      obtain ⟨v, H', os, gb, un, hok', r', q⟩ := y
      obtain rfl : v = .bl true := q
      obtain rfl : u = Value.bool true := r'
      refine ⟨rfl, OldK.of_keep fun b o e => ?_, os, gb⟩
      cases q : H b with
      | none => exact un.keep b o e q (fun z => nomatch (show b ∈ ([] : List Addr) from z)) (fun z => nomatch z)
      | some u =>
        obtain ⟨_, _, ob, xs, rfl⟩ := own b u q
        have g1 := (hok b _ q).1
        have g2 := (hok' b _ (un.frzs b ob _ q)).1
        rw [e] at g1
        cases g1
        exact g2
  by_cases hK : K.lookup a = none
  · obtain ⟨H, hH⟩ : ∃ H : Hp, H = upd (fun _ => none) a (.frz { cls := .type "list", data := .seq vs.toArray } (.lst (ns.map V.int))) := ⟨_, rfl⟩
    have at_a : H a = some (.frz { cls := .type "list", data := .seq vs.toArray } (.lst (ns.map V.int))) := by rw [hH]; exact upd_same
    have off : ∀ b u, H b = some u → b = a ∧ u = .frz { cls := .type "list", data := .seq vs.toArray } (.lst (ns.map V.int)) := fun b u e => by
      by_cases c : b = a
      · rw [c, at_a] at e
        exact ⟨c, (Option.some.inj e).symm⟩
      · rw [hH, upd_ne c] at e
        cases e
    refine go H (fun b u e => ⟨(off b u e).1, hK, _, _, (off b u e).2⟩) (.inl (.inr ⟨_, at_a⟩)) fun b u e => ?_
    obtain ⟨rfl, rfl⟩ := off b u e
    exact ⟨ha, by rw [List.length_map]; exact hl, vs, _, rv, ha⟩
  · obtain ⟨o, ho⟩ := Option.ne_none_iff_exists'.mp hK
    have e := KX a o ho
    rw [ha] at e
    obtain rfl := Option.some.inj e
    exact go (fun _ => none) (fun b u z => nomatch (show (none : Option HO) = some u from z)) (.inr ⟨_, vs.toArray, _, ho, rfl, rfl, rfl, by rw [List.size_toArray, hi.length]; exact hl, by simpa using rv⟩) fun b u z => nomatch (show (none : Option HO) = some u from z)
theorem walkG {l : PySem.W.OpenLaw} {n k : Nat} {q : Program} {loose : List Str} {XP : (Str → Option Value) → Heap → Prop} {YP : World → Heap → Prop} {d : DefRec} {K : Params → PySem.W.Frag} {cx : World → CXT} {sp : World → Sp} {x : Str}
    (hn : l.most = some n) (hn2 : n ≤ sizeLine) (hdf : d.params.defaults = []) (hr : Room k callerA) (hY : ∀ (w : World) (h : Heap), YP w h → (K w.params).In h)
    (F : ∀ (w : World) (mg : Str → Option Value) (fa : Addr) (h : Heap), (K w.params).In h → h.Ns mainGlobals mg → mg d.name = some (.ref fa) →
      ∃ fd : FuncData, (∀ (s : Shared) (u : Value), BindsTo s fd ⟨[u], []⟩ [(x, u)]) ∧ ∀ base : Heap, (K w.params).In base → base.Ns mainGlobals mg → FnG l.prog w (K w.params) mg base (cx w) k fa fd [x] (sp w))
    (hsp : ∀ (w : World) (H : Hp) (a : Addr) (ns : List Int), ns.length ≤ n → SqL (K w.params) H a (ns.map V.int) → sp w [.ref a] H (fun v _ => v = .bl true) fun _ _ _ => False)
    (hcx : ∀ (w : World) (H : Hp) (s : Shared) (e : Value) (s' : Shared), cx w [] H s (fun _ _ _ => False) e s' → False) :
    PySem.W.WalkO q loose XP YP l.row.toRowW d [] (fun f vs => PySem.call f vs) := by
  refine Att.attach_call hn hdf ?_
  intro w s₀ s₁ mg mb fa o pm cd doc a vs ns G Y ho hd hcd hmg hobj hints hlen hg
  obtain ⟨fd, hb, hF⟩ := F w mg fa _ (hY w _ Y) G.T.g hmg
  exact law_callG (hY w _ Y) G.T.g G.T.b G.T.builtins G.T.nolimit hg hobj hints (Nat.le_trans hlen hn2) hr hF hb (fun H _ hS => hsp w H a ns hlen hS) fun H e s' => hcx w H s₁ e s'
end GX

namespace LZ
open PySem PySem.Spec PyProof.Rows L2
/-! ### list(zip(xs, ys)) of two lists of one length: new pairs in a new list -/
theorem zip_no_len : typeLookup (.type "zip") "__len__" = pure none := am_miss_of_fast (by decide +kernel)
theorem zip_no_hint : typeLookup (.type "zip") "__length_hint__" = pure none := am_miss_of_fast (by decide +kernel)
structure ZSt (h : Heap) (z TI TO i1 i2 a b : Addr) (i : Nat) : Prop where
  z : IsZip h z TI TO .none ∧ (∃ x y, IsPair h TO x y) ∨ ∃ T f oT, IsZipHeld h z TI TO T f ∧ h.get? T = some oT
  TI : IsPair h TI (.ref i1) (.ref i2)
  TO : ∃ o, h.get? TO = some o
  l1 : h.IsListIter i1 a i
  l2 : h.IsListIter i2 b i
theorem ZSt.lt {h : Heap} {z TI TO i1 i2 a b : Addr} {i : Nat} (Z : ZSt h z TI TO i1 i2 a b i) : ∀ c ∈ [z, TI, TO, i1, i2], c < h.objs.size := by
  intro c hc
  simp only [List.mem_cons, List.not_mem_nil, or_false] at hc
  rcases hc with rfl | rfl | rfl | rfl | rfl
  · rcases Z.z with q | ⟨T, f, oT, q, _⟩
    · exact Heap.lt_size q.1
    · exact Heap.lt_size q
  · exact Heap.lt_size Z.TI
  · exact let ⟨_, q⟩ := Z.TO; Heap.lt_size q
  · exact let ⟨_, q, _⟩ := Z.l1; Heap.lt_size q
  · exact let ⟨_, q, _⟩ := Z.l2; Heap.lt_size q
/-- the same objects in a later heap -/
theorem ZSt.at {h h' : Heap} {z TI TO i1 i2 a b : Addr} {i : Nat} (Z : ZSt h z TI TO i1 i2 a b i) (S : Addr) (hS : S ∉ [z, TI, TO, i1, i2]) (k : ∀ c o, c ≠ S → h.get? c = some o → h'.get? c = some o) (t : ∀ c o, h.get? c = some o → ∃ o', h'.get? c = some o') : ZSt h' z TI TO i1 i2 a b i := by
  have n : ∀ c, c ∈ [z, TI, TO, i1, i2] → c ≠ S := fun c m e => hS (e ▸ m)
  refine ⟨?_, k _ _ (n _ (by simp)) Z.TI, let ⟨o, q⟩ := Z.TO; t _ _ q, Z.l1.at fun o q => k _ o (n _ (by simp)) q, Z.l2.at fun o q => k _ o (n _ (by simp)) q⟩
  rcases Z.z with ⟨q, x, y, q2⟩ | ⟨T, f, oT, q, q2⟩
  · exact .inl ⟨k _ _ (n _ (by simp)) q, x, y, k _ _ (n _ (by simp)) q2⟩
  · obtain ⟨o', e⟩ := t _ _ q2
    exact .inr ⟨T, f, o', k _ _ (n _ (by simp)) q, e⟩
/-- the pairs that stand in the list -/
structure Made (H0 H : Hp) (xs ys : List V) (ts : List Addr) : Prop where
  keep : Same H0 H
  pairs : ∀ (j : Nat) (t : Addr), ts[j]? = some t → H0 t = none ∧ ∃ x y, xs[j]? = some x ∧ ys[j]? = some y ∧ H t = some (.tup [x, y])
section
variable {X : Cx} {pins : List (Addr × Obj)} {σ : L2.St} {H0 : Hp} {z TI TO i1 i2 a b S : Addr} {xs ys : List V} {A1 : Around} {Rs : Result → Shared → Prop}
theorem zip_loop (D : ZipApart z TI TO i1 i2 a b) (hh : A1.handled = none) (hS : S ∉ [z, TI, TO, i1, i2]) (hS0 : H0 S = none) (aS : a ≠ S) (bS : b ≠ S) (hl : xs.length = ys.length) (hz : xs.length ≤ 1000000)
    (hdone : ∀ H ts s, Inv X pins σ H s → Made H0 H xs ys ts → ts.length = xs.length → H S = some (.lst (ts.map V.ref)) → Rs (.ok (.ret .none)) s) :
    ∀ (m : Nat) (ts : List Addr) (H : Hp) (s : Shared), ts.length + m = xs.length → Inv X pins σ H s → (∀ c ∈ [z, TI, TO, i1, i2], FpOk X pins H c) → ZSt s.heap z TI TO i1 i2 a b ts.length → SqL X.K H a xs → SqL X.K H b ys →
      H S = some (.lst (ts.map V.ref)) → Made H0 H xs ys ts → codeAny (model X.prog X.w) A1 (.builtin "list.extend.loop" ⟨[.ref S, .ref z, .none], []⟩) Rs s := by
  intro m
  induction m with
  | zero =>
    intro ts H s hm I hf Z ha hb hL hM
    obtain ⟨its, r1, p1, _⟩ := I.list ha
    obtain ⟨its2, r2, p2, _⟩ := I.list hb
    have l1 := r1.length
    have l2 := r2.length
    have he : its.toArray[ts.length]? = none ∨ its2.toArray[ts.length]? = none := .inl (by simp; omega)
    refine codeAny_builtin PySem.F.entry_extend_loop ?_
    rw [Around.under_plainId PySem.F.plain_extend_loop _]
    show wpAny _ A1.in1 (pyNext (.ref z) >>= _) _ _ s
    refine wpAny_bind ?_
    have fin : ∀ h' : Heap, (∀ c o, c ≠ z → c ≠ TO → c ≠ i1 → c ≠ i2 → s.heap.get? c = some o → h'.get? c = some o) → Rs (.ok (.ret .none)) { s with heap := h' } := fun h' k => by
      refine hdone H ts _ (I.turnedL (t' := s.toks) (ch := [z, TI, TO, i1, i2]) (fun c o hb q => ?_) hf) hM (by omega) hL
      exact k c o (fun e => hb (by simp [e])) (fun e => hb (by simp [e])) (fun e => hb (by simp [e])) (fun e => hb (by simp [e])) q
    rcases Z.z with ⟨q, x, y, q2⟩ | ⟨T, f, oT, q, q2⟩
    · exact wpAny_pyNext_zip_end hh D q Z.TI q2 Z.l1 Z.l2 p1.isList p2.isList he fun h' k => wpAny_pure (fin h' k)
    · exact wpAny_pyNext_zip_end_held hh D q q2 Z.TI Z.l1 Z.l2 p1.isList p2.isList he fun h' k => wpAny_pure (fin h' fun c o c1 _ c2 c3 e => k c o c1 c2 c3 e)
  | succ m ih =>
    intro ts H s hm I hf Z ha hb hL hM
    obtain ⟨its, r1, p1, _⟩ := I.list ha
    obtain ⟨its2, r2, p2, _⟩ := I.list hb
    have i1lt : ts.length < xs.length := by omega
    have i2lt : ts.length < ys.length := by omega
    obtain ⟨x, hx⟩ : ∃ x, xs[ts.length]? = some x := ⟨_, List.getElem?_eq_getElem i1lt⟩
    obtain ⟨y, hy⟩ : ∃ y, ys[ts.length]? = some y := ⟨_, List.getElem?_eq_getElem i2lt⟩
    obtain ⟨u, hu, ru⟩ := r1.get hx
    obtain ⟨u2, hu2, ru2⟩ := r2.get hy
    have hT0 : H s.heap.objs.size = none := I.hok.fresh (Nat.le_refl _)
    have hlt := Z.lt
    refine codeAny_builtin PySem.F.entry_extend_loop ?_
    rw [Around.under_plainId PySem.F.plain_extend_loop _]
    show wpAny _ A1.in1 (pyNext (.ref z) >>= _) _ _ s
    refine wpAny_bind ?_
    have turn : ∀ h' : Heap, ZSt h' z TI TO i1 i2 a b (ts.length + 1) → IsPair h' s.heap.objs.size u u2 → (∀ c o, c ≠ z → c ≠ TO → c ≠ i1 → c ≠ i2 → s.heap.get? c = some o → h'.get? c = some o) →
        wpAny (model X.prog X.w) A1.in1 (updateSeq S (·.push (.ref s.heap.objs.size)) >>= fun _ => again (.builtin "list.extend.loop" ⟨[.ref S, .ref z, .none], []⟩))
          (fun fin s' => match fin with | .done f => Rs (.ok f) s' | .again c' => c'.quiet = true ∧ codeAny (model X.prog X.w) A1 c' Rs s') (fun e s' => Rs (.error e) s') { s with heap := h' } := by
      intro h' Z' hP k
      have new : ObjOk X.prog X.w (upd H s.heap.objs.size (.tup [x, y])) h' s.heap.objs.size (.tup [x, y]) := ⟨by show 2 ≤ sizeLine; decide, [u, u2], .cons ru (.cons ru2 .nil), ⟨_, hP, rfl, _, rfl⟩⟩
      have I1 : Inv X pins σ (upd H s.heap.objs.size (.tup [x, y])) { s with heap := h' } := I.turnedNew (t' := s.toks) (ch := [z, TI, TO, i1, i2])
        (fun c o hb q => k c o (fun e => hb (by simp [e])) (fun e => hb (by simp [e])) (fun e => hb (by simp [e])) (fun e => hb (by simp [e])) q) hf (Nat.le_refl _) new
      have nST : S ≠ s.heap.objs.size := ne_of_none hL hT0
      have hL1 : upd H s.heap.objs.size (.tup [x, y]) S = some (.lst (ts.map V.ref)) := by rw [upd_ne nST]; exact hL
      obtain ⟨_, its3, n3, r3, hl3, e3⟩ := I1.lstM hL1
      rw [List.length_map] at hl3
      have I2 := I1.lset (f := (·.push (.ref s.heap.objs.size))) (its' := its3 ++ [.ref s.heap.objs.size]) (ys := (ts ++ [s.heap.objs.size]).map V.ref) (t' := s.toks) hL1 e3 (by simp)
        (by rw [List.map_append]; exact r3.append (.cons rfl .nil)) (by rw [List.length_map, List.length_append, List.length_singleton, sizeLine_eq]; omega)
      refine wpAny_bind (wpAny_updateSeq e3 rfl (wpAny_pure ⟨plainId_quiet PySem.F.plain_extend_loop _, ?_⟩) (by rw [List.size_toArray, sizeLine_eq]; omega) (by show (its3.toArray.push _).size ≤ sizeLine + 1; rw [Array.size_push, List.size_toArray, sizeLine_eq]; omega))
      have new_at : ∀ c o, c ≠ S → H c = some o → (upd (upd H s.heap.objs.size (.tup [x, y])) S (.lst ((ts ++ [s.heap.objs.size]).map V.ref))) c = some o := fun c o n e => by
        rw [upd_ne n, upd_ne (ne_of_none e hT0)]
        exact e
      have lst_at : ∀ {c : Addr} {zs : List V}, c ≠ S → SqL X.K H c zs → SqL X.K (upd (upd H s.heap.objs.size (.tup [x, y])) S (.lst ((ts ++ [s.heap.objs.size]).map V.ref))) c zs := fun {c zs} n q => by
        rcases q with (q | ⟨o, q⟩) | q
        · exact .inl (.inl (new_at _ _ n q))
        · exact .inl (.inr ⟨o, new_at _ _ n q⟩)
        · exact .inr q
      refine ih (ts ++ [s.heap.objs.size]) _ _ (by rw [List.length_append, List.length_singleton]; omega) I2 (fun c hc => ?_) ?_ (lst_at aS ha) (lst_at bS hb) upd_same ⟨fun c o e => ?_, fun j t ht => ?_⟩
      · have f := hf c hc
        refine ⟨?_, f.2⟩
        rw [upd_ne (fun e => hS (by rw [← e]; exact hc)), upd_ne (Nat.ne_of_lt (hlt c hc))]
        exact f.1
      · rw [List.length_append, List.length_singleton]
        refine Z'.at S hS (fun c o n e => (Heap.get?_update_other _ _ (Ne.symm n)).trans e) fun c o e => ?_
        by_cases n : c = S
        · rw [n]; exact ⟨_, PySem.IsL.update e3 _⟩
        · exact ⟨o, (Heap.get?_update_other _ _ (Ne.symm n)).trans e⟩
      · exact new_at c o (fun n => by rw [n, hS0] at e; cases e) (hM.keep c o e)
      · by_cases c : j < ts.length
        · rw [List.getElem?_append_left c] at ht
          obtain ⟨n0, x', y', e1, e2, e3⟩ := hM.pairs j t ht
          refine ⟨n0, x', y', e1, e2, new_at t _ (fun n => ?_) e3⟩
          rw [n, hL] at e3; cases e3
        · have hj : j = ts.length := by
            have := (List.getElem?_eq_some_iff.mp ht).1
            rw [List.length_append, List.length_singleton] at this
            omega
          rw [hj, List.getElem?_append_right (Nat.le_refl _), Nat.sub_self] at ht
          obtain rfl : s.heap.objs.size = t := Option.some.inj ht
          refine ⟨?_, x, y, by rw [hj]; exact hx, by rw [hj]; exact hy, ?_⟩
          · cases q : H0 s.heap.objs.size with
            | none => rfl
            | some o => rw [hM.keep _ _ q] at hT0; cases hT0
          · rw [upd_ne (Ne.symm nST)]; exact upd_same
    rcases Z.z with ⟨q, x0, y0, q2⟩ | ⟨T, f, oT, q, q2⟩
    · refine wpAny_pyNext_zip_item D q Z.TI q2 Z.l1 Z.l2 p1.isList p2.isList (x := u) (y := u2) (by simpa using hu) (by simpa using hu2) fun h' z' TO' l1' l2' hP hsz k => ?_
      refine turn h' ⟨.inr ⟨_, false, _, z', hP⟩, k _ _ D.TIz D.TITO D.TIi1 D.TIi2 Z.TI, ⟨_, TO'⟩, l1', l2'⟩ hP k
    · refine wpAny_pyNext_zip_item_held D q q2 Z.TI Z.l1 Z.l2 p1.isList p2.isList (x := u) (y := u2) (by simpa using hu) (by simpa using hu2) fun h' z' l1' l2' hP hsz k => ?_
      obtain ⟨oTO, eTO⟩ := Z.TO
      have kT : ∃ o, h'.get? T = some o := by
        by_cases c1 : T = z
        · rw [c1]; exact ⟨_, z'⟩
        by_cases c2 : T = i1
        · rw [c2]; obtain ⟨o, e, _⟩ := l1'; exact ⟨o, e⟩
        by_cases c3 : T = i2
        · rw [c3]; obtain ⟨o, e, _⟩ := l2'; exact ⟨o, e⟩
        exact ⟨oT, k _ _ c1 c2 c3 q2⟩
      obtain ⟨oT', eT'⟩ := kT
      exact turn h' ⟨.inr ⟨T, true, oT', z', eT'⟩, k _ _ D.TIz D.TIi1 D.TIi2 Z.TI, ⟨_, k _ _ D.TOz D.TOi1 D.TOi2 eTO⟩, l1', l2'⟩ hP fun c o c1 _ c2 c3 e => k c o c1 c2 c3 e
end
section
variable {X : Cx} {e e2 : Expr} {ta : TA} {p p2 pos pos2 : Pos}
def tLZ (K : PySem.W.Frag) (ta : TA) : TE := fun σ H Q => ta σ H fun vs H1 => ∃ a b xs ys, vs = [.ref a, .ref b] ∧ SqL K H1 a xs ∧ SqL K H1 b ys ∧ xs.length = ys.length ∧ xs.length ≤ 1000000 ∧
  ∀ H2 l ts, Made H1 H2 xs ys ts → ts.length = xs.length → H1 l = none → H2 l = some (.lst (ts.map V.ref)) → Q (.ref l) H2
theorem pe_listzip (hc : X.calm = true) (hgl : Gl X "list") (hml : X.mg "list" = none) (hgz : Gl X "zip") (hmz : X.mg "zip" = none) (ha : PA X [e, e2] ta)
    (hs : starEach [e, e2] X.env = (false, eval e X.env) :: starEach [e2] X.env := by rfl) (hpl : (backTo pos2 (starEach [e2] X.env)).any (·.1) = false := by rfl)
    (na : starEach [.Call (.Name "zip" p2) [e, e2] [] pos2] X.env = (false, eval (.Call (.Name "zip" p2) [e, e2] [] pos2) X.env) :: starEach [] X.env := by rfl) :
    PE X (.Call (.Name "list" p) [.Call (.Name "zip" p2) [e, e2] [] pos2] [] pos) (tLZ X.K ta) := by
  refine ⟨fun pins s σ H Q I h => ?_⟩
  refine Call_ (ld_blt I hgl hml boot_list (PyProof.Rows.callWith_type1 (args_cons ?_ na) na))
  refine Call_ (ld_blt I hgz hmz PyProof.Rows.boot_zip (PyProof.Rows.callWith_type1 (thn (ha.run pos2 pins s σ H _ I h) fun us s1 ⟨vs, H1, I1, r1, q1⟩ => ?_) hs hpl))
  obtain ⟨a, b, xs, ys, rfl, hqx, hqy, hl, hz, q⟩ := q1
  obtain ⟨u, rest, rfl, ru, rr⟩ : ∃ u rest, us = u :: rest ∧ RelV (.ref a) u ∧ Vals [.ref b] rest := by
    cases r1 with
    | cons r rr => exact ⟨_, _, rfl, r, rr⟩
  obtain ⟨u2, rfl, ru2⟩ := rr.one
  cases ru
  cases ru2
  obtain ⟨its, rv, p1, _⟩ := I1.list hqx
  obtain ⟨its2, rv2, p2, _⟩ := I1.list hqy
  have la : a < s1.heap.objs.size := p1.lt
  have lb : b < s1.heap.objs.size := p2.lt
  refine call_zip_2 p1.isList p2.isList fun h' hz' hTI hTO h1 h2 hsz hk => args_nil ?_
  have D : ZipApart (s1.heap.objs.size + 4) (s1.heap.objs.size + 2) (s1.heap.objs.size + 3) s1.heap.objs.size (s1.heap.objs.size + 1) a b := PySem.W.ktu_apart s1.heap.objs.size a b la lb
  have Z : ZSt h' (s1.heap.objs.size + 4) (s1.heap.objs.size + 2) (s1.heap.objs.size + 3) s1.heap.objs.size (s1.heap.objs.size + 1) a b 0 := ⟨.inl ⟨hz', _, _, hTO⟩, hTI, ⟨_, hTO⟩, h1, h2⟩
  have fp : ∀ c ∈ [s1.heap.objs.size + 4, s1.heap.objs.size + 2, s1.heap.objs.size + 3, s1.heap.objs.size, s1.heap.objs.size + 1], s1.heap.objs.size ≤ c := fun c hc => by
    simp only [List.mem_cons, List.not_mem_nil, or_false] at hc
    rcases hc with rfl | rfl | rfl | rfl | rfl <;> omega
  have I2 : Inv X pins σ H1 { s1 with heap := h' } := I1.kept (t' := s1.toks) hk
  have hlt := Z.lt
  generalize s1.heap.objs.size + 4 = z at *
  generalize s1.heap.objs.size + 2 = TI at *
  generalize s1.heap.objs.size + 3 = TO at *
  generalize s1.heap.objs.size + 1 = i2 at *
  have S0 : H1 h'.objs.size = none := I2.hok.fresh (Nat.le_refl _)
  have hSm : h'.objs.size ∉ [z, TI, TO, s1.heap.objs.size, i2] := fun m => absurd (hlt _ m) (Nat.lt_irrefl _)
  refine callType_codes (Q₁ := fun obj s₁ => obj = .ref h'.objs.size ∧ s₁ = { s1 with heap := h'.push { cls := .type "list", data := .seq #[] } }) PySem.F.called_list (PySem.F.typeCall_list_1 _) PySem.F.entry_list_init
    (code_list_new _ ⟨rfl, rfl⟩) fun obj s₁ h₁ => ?_
  obtain ⟨rfl, rfl⟩ := h₁
  have hS : (h'.push { cls := .type "list", data := .seq #[] }).get? h'.objs.size = some { cls := .type "list", data := .seq #[] } := Heap.get?_push_size _ rfl
  refine ⟨⟨_, hS, rfl⟩, PySem.F.args_list_init_2 _ _, ?_⟩
  have I3 : Inv X pins σ (upd H1 h'.objs.size (.lst [])) { s1 with heap := h'.push { cls := .type "list", data := .seq #[] } } := I2.lnew (its := []) (t' := s1.toks) .nil (Nat.zero_le _)
  have Z3 : ZSt (h'.push { cls := .type "list", data := .seq #[] }) z TI TO s1.heap.objs.size i2 a b 0 := Z.at h'.objs.size hSm (fun c o _ e => Heap.get?_push_of_some _ e) fun c o e => ⟨o, Heap.get?_push_of_some _ e⟩
  show wpAny _ _ (do let old ← Builtin.List.listItems (.ref h'.objs.size); Builtin.List.listUpdate (.ref h'.objs.size) (fun _ => #[]); letGo old.toList.reverse; Builtin.List.listExtendWith (.ref h'.objs.size) (.ref z) .none) _ _ _
  refine wpAny_bind ?_
  unfold Builtin.List.listItems
  refine wpAny_bind (wpAny_seqItems hS rfl (wpAny_pure ?_))
  show wpAny _ _ (updateSeq h'.objs.size (fun _ => #[]) >>= fun _ => letGo (#[] : Array Value).toList.reverse >>= fun _ => Builtin.List.listExtendWith (.ref h'.objs.size) (.ref z) .none) _ _ _
  refine wpAny_bind (wpAny_updateSeq hS rfl ?_)
  have I4 := I3.lset (f := fun _ => #[]) (its := []) (its' := []) (ys := []) (t' := s1.toks) upd_same hS rfl .nil (Nat.zero_le _)
  rw [upd_upd] at I4
  have Z4 := Z3.at (h' := (h'.push { cls := .type "list", data := .seq #[] }).update h'.objs.size (Obj.mapSeq fun _ => #[])) h'.objs.size hSm (fun c o n e => (Heap.get?_update_other _ _ (Ne.symm n)).trans e) fun c o e => by
    by_cases n : c = h'.objs.size
    · rw [n]; exact ⟨_, PySem.IsL.update hS _⟩
    · exact ⟨o, (Heap.get?_update_other _ _ (Ne.symm n)).trans e⟩
  refine wpAny_bind (wpAny_letGo ?_)
  have hne : h'.objs.size ≠ z := fun e => hSm (by simp [e])
  have z4 := (Heap.get?_update_other (h'.push { cls := .type "list", data := .seq #[] }) (Obj.mapSeq fun _ => #[]) hne).trans (Heap.get?_push_of_some { cls := .type "list", data := .seq #[] } hz')
  have fin : ∀ s' : Shared, Inv X pins σ (upd H1 h'.objs.size (.lst [])) s' → ZSt s'.heap z TI TO s1.heap.objs.size i2 a b 0 →
      codeAny (model X.prog X.w) X.A.in1 (.builtin "list.extend.loop" ⟨[.ref h'.objs.size, .ref z, .none], []⟩) (wants (fun r s₂ => r = .none ∧ EP X pins σ Q (.ref h'.objs.size) s₂) X.xe) s' := fun s' J Z' => by
    have nl : ∀ {c : Addr} {zs : List V}, c ≠ h'.objs.size → SqL X.K H1 c zs → SqL X.K (upd H1 h'.objs.size (.lst [])) c zs := fun {c zs} n q => by
      rcases q with (q | ⟨o, q⟩) | q
      · exact .inl (.inl (by rw [upd_ne n]; exact q))
      · exact .inl (.inr ⟨o, by rw [upd_ne n]; exact q⟩)
      · exact .inr q
    have na : a ≠ h'.objs.size := Nat.ne_of_lt (Nat.lt_of_lt_of_le la (by omega))
    have nb : b ≠ h'.objs.size := Nat.ne_of_lt (Nat.lt_of_lt_of_le lb (by omega))
    refine zip_loop (A1 := X.A.in1) (H0 := H1) D (I2.ok.hd hc) hSm S0 na nb hl hz (fun H2 ts s'' J2 M hts hL => ⟨rfl, .ref h'.objs.size, H2, J2, rfl, q H2 _ ts M hts S0 hL⟩) xs.length [] _ s' (Nat.zero_add _) J (fun c hcm => ?_) Z' (nl na hqx) (nl nb hqy) upd_same
      ⟨fun c o e => by rw [upd_ne (ne_of_none e S0)]; exact e, fun j t e => nomatch e⟩
    have hge := fp c hcm
    have f := I1.fpOk (H' := upd H1 h'.objs.size (.lst [])) hge (by
      rw [upd_ne (Nat.ne_of_lt (hlt c hcm))]
      exact I1.hok.fresh hge)
    exact f
  have ty : ({ s1 with heap := (h'.push { cls := .type "list", data := .seq #[] }).update h'.objs.size (Obj.mapSeq fun _ => #[]) } : Shared).TypeIs (.ref z) "zip" := ⟨_, z4, rfl⟩
  unfold Builtin.List.listExtendWith
  refine wpAny_bind (wpAny_typeOf ty ?_)
  have g1 : Builtin.List.listSameRef (.ref h'.objs.size) (.ref z) = false := by simp [Builtin.List.listSameRef, hne]
  have g2 : (Value.type "zip" == Value.type "list") = false := by decide
  have g3 : (Value.type "zip" == Value.type "tuple") = false := by decide
  simp only [g1, g2, g3, Bool.or_false, Bool.false_eq_true, if_false]
  refine wpAny_bind (wpAny_pyIter_zip z4 ?_)
  refine wpAny_bind (wpAny_holding ?_)
  unfold Builtin.List.listLengthHint
  refine wpAny_bind (wpAny_specialOf ty zip_no_len ?_)
  show wpAny _ _ (specialOf (Value.ref z) (Str.ofString "__length_hint__") >>= _) _ _ _
  refine wpAny_bind (wpAny_specialOf ty zip_no_hint ?_)
  refine wpAny_pure ?_
  obtain ⟨_, its5, k5, r5, hl5, e5⟩ := I4.lstM upd_same
  cases r5
  refine wpAny_ite_split (fun _ => ?_) (fun _ => wpAny_pure ⟨plainId_quiet PySem.F.plain_extend_loop _, fin _ I4 Z4⟩)
  refine wpAny_bind (wpAny_rule ?_)
  refine wpAny_bind ?_
  show wpAny _ _ (updateSeq h'.objs.size (·.push .none) >>= fun _ => updateSeq h'.objs.size (·.pop)) _ _ _
  refine wpAny_bind (wpAny_updateSeq e5 rfl ?_)
  have I5 := I4.lset (f := (·.push Value.none)) (its' := [Value.none]) (ys := [.non]) (t' := s1.toks) upd_same e5 (by simp) (.cons rfl .nil) (by rw [List.length_singleton, sizeLine_eq]; decide)
  obtain ⟨_, its6, k6, r6, hl6, e6⟩ := I5.lstM upd_same
  obtain ⟨u6, rfl, ru6⟩ := r6.one
  refine wpAny_updateSeq e6 rfl ?_ (by show 1 ≤ sizeLine; rw [sizeLine_eq]; decide) (by show 0 ≤ sizeLine + 1; exact Nat.zero_le _)
  have I6 := I5.lset (f := (·.pop)) (its := [u6]) (its' := []) (ys := []) (t' := s1.toks) upd_same e6 (by rfl) .nil (Nat.zero_le _)
  rw [upd_upd, upd_upd] at I6
  have later : ∀ {h : Heap} {i : Nat} {o : Obj} (f : Array Value → Array Value), ZSt h z TI TO s1.heap.objs.size i2 a b i → h.get? h'.objs.size = some o → (∃ o', (h.update h'.objs.size (Obj.mapSeq f)).get? h'.objs.size = some o') → ZSt (h.update h'.objs.size (Obj.mapSeq f)) z TI TO s1.heap.objs.size i2 a b i :=
    fun {h i o} f q _ e' => q.at h'.objs.size hSm (fun c o n e => (Heap.get?_update_other _ _ (Ne.symm n)).trans e) fun c o e => by
      by_cases n : c = h'.objs.size
      · rw [n]; exact e'
      · exact ⟨o, (Heap.get?_update_other _ _ (Ne.symm n)).trans e⟩
  refine wpAny_pure ⟨plainId_quiet PySem.F.plain_extend_loop _, fin _ I6 ?_⟩
  exact later _ (later _ Z4 e5 ⟨_, PySem.IsL.update e5 _⟩) e6 ⟨_, PySem.IsL.update e6 _⟩
end
end LZ

namespace RT
open PySem PySem.Spec PyProof.Rows L2
/-! ### t[:0:-1] of a tuple of one to three items: the items behind the first one, backwards -/
section
variable {prog : Program} {w : World} {A : Around} {E : Value → Shared → Prop} {s : Shared}
theorem part_of {v : Value} {o : Option Int} {Q : Option Int → Shared → Prop} (p : IsPart v o) (h : Q o s) : wpAny (model prog w) A (Builtin.Slice.slicePartIndex v) Q E s := HT.slicePart_ p h
theorem applied {sl : Addr} {vl vu vs : Value} {n : Nat} {Q : Int × Int × Nat → Shared → Prop} (hs : s.heap.IsSliceOf sl vl vu vs) (pl : IsPart vl none) (pu : IsPart vu (some 0)) (ps : IsPart vs (some (-1))) (h0 : 1 ≤ n) (h3 : n ≤ 3)
    (h : Q ((n : Int) - 1, -1, n - 1) s) : wpAny (model prog w) A (Builtin.Slice.sliceApplied (.ref sl) (pure (n : Int))) Q E s := by
  obtain ⟨os, hos, hcs, hds⟩ := id hs
  unfold Builtin.Slice.sliceApplied Builtin.Slice.sliceFields
  refine wpAny_bind (wpAny_bind (wpAny_field hos hds (x := vl) rfl (wpAny_bind (wpAny_field hos hds (x := vu) rfl (wpAny_bind (wpAny_field hos hds (x := vs) rfl (wpAny_pure ?_)))))))
  refine wpAny_bind (part_of ps ?_)
  show wpAny _ _ (if ((-1 : Int) == 0) = true then _ else _) _ _ s
  rw [if_neg (by decide)]
  refine wpAny_bind (part_of pl (wpAny_bind (part_of pu (wpAny_bind (wpAny_pure ?_)))))
  have hn : n = 1 ∨ n = 2 ∨ n = 3 := by omega
  rcases hn with rfl | rfl | rfl
  · exact wpAny_pure h
  · exact wpAny_pure h
  · exact wpAny_pure h
theorem backwards {its : List Value} (h0 : 1 ≤ its.length) (h3 : its.length ≤ 3) : ((List.range (its.toArray.size - 1)).filterMap fun (k : Nat) => its.toArray[(((its.toArray.size : Int) - 1) + (k : Int) * (-1)).toNat]?).toArray = (its.drop 1).reverse.toArray := by
  rcases its with _ | ⟨a, _ | ⟨b, _ | ⟨c, _ | ⟨d, r⟩⟩⟩⟩
  · exact absurd h0 (by simp)
  · simp
  · simp [List.range_succ]
  · simp [List.range_succ]
  · simp only [List.length_cons] at h3
    omega
theorem item_back {t sl : Addr} {its : List Value} {vl vu vs : Value} {Q : Value → Shared → Prop} (ht : IsTup s.heap t its.toArray) (hs : s.heap.IsSliceOf sl vl vu vs) (pl : IsPart vl none) (pu : IsPart vu (some 0)) (ps : IsPart vs (some (-1)))
    (h0 : 1 ≤ its.length) (h3 : its.length ≤ 3) (h : Q (.ref s.heap.objs.size) { s with heap := s.heap.push { cls := .type "tuple", data := .seq (its.drop 1).reverse.toArray } }) : wpAny (model prog w) A (getItem (.ref t) (.ref sl)) Q E s := by
  obtain ⟨os, hos, hcs, hds⟩ := id hs
  have hTs : s.TypeIs (.ref sl) "slice" := ⟨os, hos, hcs⟩
  unfold getItem
  try with_reducible refine wpAny_holding ?_
  first | refine wpAny_bind (wpAny_pure ?_) | skip
  refine wpAny_bind (wpAny_sequenceKey ht.typeIs (by decide) ?_)
  refine wpAny_bind (wpAny_callSpecial?_slot (name := Str.ofString "__getitem__") ht.typeIs PyProof.Rows.slot_tuple_getitem
    (wpAny_call_entry PyProof.Rows.slot_tuple_getitem ht.typeIs entry_tuple_getitem ?_ (args_tuple_getitem _ _)))
  show wpAny _ _ (Builtin.Tuple.tupleItemsOf (.ref t) >>= _) _ _ s
  refine wpAny_bind (tupleItemsOf_ ht ?_)
  refine wpAny_bind (wpAny_typeOf hTs ?_)
  rw [if_pos (by decide)]
  refine wpAny_bind (applied (n := its.toArray.size) hs pl pu ps (by simpa using h0) (by simpa using h3) ?_)
  have hno : ∀ k : Nat, ¬ ((((its.toArray.size : Int) - 1) == 0 && (-1 : Int) == 1 && k == its.toArray.size) = true) := fun k q => by
    rw [Bool.and_eq_true, Bool.and_eq_true] at q
    exact absurd q.1.2 (by decide)
  show wpAny _ _ (if (((its.toArray.size : Int) - 1) == 0 && (-1 : Int) == 1 && (its.toArray.size - 1) == its.toArray.size) = true then _ else _) _ _ s
  rw [if_neg (hno _)]
  rw [backwards h0 h3]
  have hz : sizeOk (.seq (its.drop 1).reverse.toArray) := by
    show (its.drop 1).reverse.toArray.size ≤ sizeLine
    rw [List.size_toArray, List.length_reverse, List.length_drop, sizeLine_eq]
    omega
  first
    | exact wpAny_bind (m := Builtin.Tuple.tupleExact _) (wpAny_newObj_type (wpAny_pure ⟨_, rfl, wpAny_pure h⟩) hz)
    | exact wpAny_bind (m := Builtin.Tuple.tupleExact _) (wpAny_newObj_type (wpAny_bind (wpAny_pure (wpAny_pure ⟨_, rfl, wpAny_pure h⟩))) hz)
    | exact wpAny_bind (wpAny_bind (m := Builtin.Tuple.tupleExact _) (wpAny_newObj_type (wpAny_pure (wpAny_pure ⟨_, rfl, wpAny_pure h⟩)) hz))
    | exact wpAny_bind (wpAny_bind (m := Builtin.Tuple.tupleExact _) (wpAny_newObj_type (wpAny_pure ⟨_, rfl, wpAny_pure h⟩) hz))
end
section
variable {X : Cx} {e : Expr} {te : TE} {k0 k : Nat} {p0 p1 p2 p3 pos : Pos}
def tTail (K : PySem.W.Frag) (te : TE) : TE := fun σ H Q => te σ H fun x H1 => ∃ a xs, x = .ref a ∧ SqT K H1 a xs ∧ 1 ≤ xs.length ∧ xs.length ≤ 3 ∧ ∀ p, H1 p = none → Q (.ref p) (upd H1 p (.tup (xs.drop 1).reverse))
theorem pe_tail (he : PE X e te) : PE X (.Subscript e (.Slice none (some (.Constant (.int 0) k0 p0)) (some (.UnaryOp .USub (.Constant (.int 1) k p1) p2)) p3) pos) (tTail X.K te) := by
  refine ⟨fun pins s σ H Q I h => ?_⟩
  refine Subscript_ (thn (he.run pins s σ H _ I h) fun v s1 ⟨x, H1, I1, r1, q1⟩ => ?_)
  obtain ⟨a, xs, rfl, hx, h0, h3, q⟩ := q1
  cases r1
  have hst : PO X (some (.UnaryOp .USub (.Constant (.int 1) k p1) p2)) (tPart (tUn (rU fun i => .int (-i)) (tC (.int 1)))) := po_some (pe_un un_neg pe_int)
  have hup : PO X (some (.Constant (.int 0) k0 p0)) (tPart (tC (.int 0))) := po_some pe_int
  refine wpAny_Slice (thn (po_none.run pins s1 σ H1 (fun o H2 => o = none ∧ H2 = H1) I1 ⟨rfl, rfl⟩) fun vl s2 ⟨l, H2, I2, pl, el, e2⟩ => ?_)
  subst el e2
  refine thn (hup.run pins s2 σ H2 (fun o H3 => o = some 0 ∧ H3 = H2) I2 ⟨0, rfl, rfl, rfl⟩) fun vu s3 ⟨u, H3, I3, pu, eu, e3⟩ => ?_
  subst eu e3
  refine thn (hst.run pins s3 σ H3 (fun o H4 => o = some (-1) ∧ H4 = H3) I3 ⟨1, rfl, -1, rfl, rfl, rfl⟩) fun vs s4 ⟨o, H4, I4, ps, eo, e4⟩ => ?_
  subst eo e4
  have I5 : Inv X pins σ H4 { s4 with heap := s4.heap.push { cls := .type "slice", data := .fields #[vl, vu, vs] } } := I4.kept (t' := s4.toks) fun b ob q => Heap.get?_push_of_some _ q
  obtain ⟨its, r, ht, hz⟩ := I5.tuple hx
  have hlen := r.length
  show wpAny (model X.prog X.w) X.A (subscriptTail e (.Slice none (some (.Constant (.int 0) k0 p0)) (some (.UnaryOp .USub (.Constant (.int 1) k p1) p2)) p3) (.ref a) (.ref s4.heap.objs.size)) (EP X pins σ Q) X.xe { s4 with heap := s4.heap.push { cls := .type "slice", data := .fields #[vl, vu, vs] } }
  refine tail_any (ops := [.ref a, .ref s4.heap.objs.size]) ht.typeIs (PyProof.Rows.slot_tuple_getitem.lookup) ?_ (by with_unfolding_all rfl)
  refine item_back ht (Heap.IsSliceOf.new _ vl vu vs) pl pu ps (by omega) (by omega) ?_
  refine ⟨.ref _, _, I5.laid (t' := s4.toks) (o := .tup (xs.drop 1).reverse) (fun b ob q => Heap.get?_push_of_some _ q) (Nat.le_refl _) ?_, rfl, q _ (I5.hok.fresh (Nat.le_refl _))⟩
  exact ⟨by rw [List.length_reverse, List.length_drop]; omega, _, (r.drop 1).reverse, IsTup.new _ _⟩
end
end RT

namespace KV
open PySem PySem.Spec PyProof.Rows L2
/-! ### kinds and their values -/
inductive Kd
  | num
  | pair (a b : Kd)
  | seq (a : Kd)
  deriving DecidableEq
def Kd.dep : Kd → Nat
  | .num => 1
  | .pair a b => max a.dep b.dep + 1
  | .seq a => a.dep + 1
def Kd.sz : Kd → Nat
  | .num => 1
  | .pair a b => a.sz + b.sz + 1
  | .seq a => a.sz + 1
def Val : Kd → Type
  | .num => Int
  | .pair a b => Val a × Val b
  | .seq a => List (Val a)
abbrev lst {a : Kd} (xs : Val (.seq a)) : List (Val a) := xs
abbrev int (n : Val .num) : Int := n
def KdAt (H : Hp) : Kd → V → Prop
  | .num, v => ∃ a, v = .ref a ∧ H a = some (.tup [.str "num"])
  | .pair k l, v => ∃ a u w, v = .ref a ∧ H a = some (.tup [.str "pair", u, w]) ∧ KdAt H k u ∧ KdAt H l w
  | .seq k, v => ∃ a u, v = .ref a ∧ H a = some (.tup [.str "seq", u]) ∧ KdAt H k u
/-- tuples stay -/
def Kt (H H' : Hp) : Prop := ∀ b xs, H b = some (.tup xs) → H' b = some (.tup xs)
theorem Kt.of {H H' : Hp} (k : Same H H') : Kt H H' := fun b xs e => k b _ e
theorem Kt.refl {H : Hp} : Kt H H := fun _ _ e => e
theorem Kt.trans {H H1 H2 : Hp} (x : Kt H H1) (y : Kt H1 H2) : Kt H H2 := fun b xs e => y b xs (x b xs e)
theorem KdAt.kt {H H' : Hp} (t : Kt H H') : ∀ {k : Kd} {v : V}, KdAt H k v → KdAt H' k v
  | .num, _, ⟨a, e, h⟩ => ⟨a, e, t _ _ h⟩
  | .pair _ _, _, ⟨a, u, w, e, h, x, y⟩ => ⟨a, u, w, e, t _ _ h, x.kt t, y.kt t⟩
  | .seq _, _, ⟨a, u, e, h, x⟩ => ⟨a, u, e, t _ _ h, x.kt t⟩
def InR (n : Int) : Prop := -2147483648 ≤ n ∧ n ≤ 2147483647
/-- item by item: a value, where it stands, its lists -/
inductive All3 {α : Type} (R : α → V → List Addr → Prop) : List α → List V → List (List Addr) → Prop
  | nil : All3 R [] [] []
  | cons {x : α} {u : V} {as : List Addr} {xs : List α} {us : List V} {ass : List (List Addr)} : R x u as → All3 R xs us ass → All3 R (x :: xs) (u :: us) (as :: ass)
/-- the value x of the kind k stands at v; as: the addresses of its lists -/
def VAt (H : Hp) : (k : Kd) → Val k → V → List Addr → Prop
  | .num, n, v, as => v = .int n ∧ as = []
  | .pair k l, xy, v, as => ∃ p u w as1 as2, v = .ref p ∧ H p = some (.tup [u, w]) ∧ VAt H k xy.1 u as1 ∧ VAt H l xy.2 w as2 ∧ as = as1 ++ as2
  | .seq k, xs, v, as => ∃ p us ass, v = .ref p ∧ H p = some (.lst us) ∧ All3 (VAt H k) xs us ass ∧ as = p :: ass.flatten
section
variable {α : Type} {R S : α → V → List Addr → Prop}
theorem All3.len {xs : List α} {us : List V} {ass : List (List Addr)} (h : All3 R xs us ass) : us.length = xs.length ∧ ass.length = xs.length := by
  induction h with
  | nil => exact ⟨rfl, rfl⟩
  | cons _ _ ih => exact ⟨by rw [List.length_cons, List.length_cons, ih.1], by rw [List.length_cons, List.length_cons, ih.2]⟩
theorem All3.imp {xs : List α} {us : List V} {ass : List (List Addr)} (h : All3 R xs us ass) (f : ∀ x u as, as ∈ ass → R x u as → S x u as) : All3 S xs us ass := by
  induction h with
  | nil => exact .nil
  | cons a _ ih => exact .cons (f _ _ _ (List.mem_cons_self ..) a) (ih fun x u as m => f x u as (List.mem_cons_of_mem _ m))
theorem All3.get {xs : List α} {us : List V} {ass : List (List Addr)} (h : All3 R xs us ass) : ∀ {i : Nat} {u : V}, us[i]? = some u → ∃ x as, xs[i]? = some x ∧ ass[i]? = some as ∧ R x u as := by
  induction h with
  | nil => intro i u e; cases e
  | cons a _ ih =>
    intro i u e
    cases i with
    | zero => exact ⟨_, _, rfl, rfl, by cases e; exact a⟩
    | succ i => exact ih e
theorem All3.app {xs ys : List α} {us ws : List V} {ass bss : List (List Addr)} (h : All3 R xs us ass) (g : All3 R ys ws bss) : All3 R (xs ++ ys) (us ++ ws) (ass ++ bss) := by
  induction h with
  | nil => exact g
  | cons a _ ih => exact .cons a ih
theorem All3.one {x : α} {u : V} {as : List Addr} (h : R x u as) : All3 R [x] [u] [as] := .cons h .nil
theorem All3.take {xs : List α} {us : List V} {ass : List (List Addr)} (h : All3 R xs us ass) : ∀ n, All3 R (xs.take n) (us.take n) (ass.take n) := by
  induction h with
  | nil => intro n; cases n <;> exact .nil
  | cons a _ ih => intro n; cases n with
    | zero => exact .nil
    | succ n => exact .cons a (ih n)
theorem All3.drop {xs : List α} {us : List V} {ass : List (List Addr)} (h : All3 R xs us ass) : ∀ n, All3 R (xs.drop n) (us.drop n) (ass.drop n) := by
  induction h with
  | nil => intro n; cases n <;> exact .nil
  | cons a h ih => intro n; cases n with
    | zero => exact .cons a h
    | succ n => exact ih n
end
/-- what leaves the lists of a value and the tuples as they are, leaves the value -/
theorem VAt.keep {H H' : Hp} (t : Kt H H') : ∀ {k : Kd} {x : Val k} {v : V} {as : List Addr}, VAt H k x v as → (∀ b ∈ as, ∀ o, H b = some o → H' b = some o) → VAt H' k x v as
  | .num, _, _, _, h, _ => h
  | .pair _ _, _, _, _, ⟨p, u, w, as1, as2, e, h, x, y, z⟩, f => by
    subst z
    exact ⟨p, u, w, as1, as2, e, t _ _ h, x.keep t fun b m => f b (List.mem_append_left _ m), y.keep t fun b m => f b (List.mem_append_right _ m), rfl⟩
  | .seq _, _, _, _, ⟨p, us, ass, e, h, x, z⟩, f => by
    subst z
    refine ⟨p, us, ass, e, f p (List.mem_cons_self ..) _ h, x.imp fun x u as m r => r.keep t fun b mb => f b (List.mem_cons_of_mem _ (List.mem_flatten.mpr ⟨as, m, mb⟩)), rfl⟩
theorem VAt.same {H H' : Hp} (s : Same H H') {k : Kd} {x : Val k} {v : V} {as : List Addr} (h : VAt H k x v as) : VAt H' k x v as := h.keep (Kt.of s) fun b _ o => s b o
/-- every address of a value's lists holds a list -/
theorem VAt.lists {H : Hp} : ∀ {k : Kd} {x : Val k} {v : V} {as : List Addr}, VAt H k x v as → ∀ b ∈ as, ∃ us, H b = some (.lst us)
  | .num, _, _, _, h, b, m => by rw [h.2] at m; cases m
  | .pair _ _, _, _, _, ⟨p, u, w, as1, as2, e, h, x, y, z⟩, b, m => by
    subst z
    rcases List.mem_append.mp m with m | m
    · exact x.lists b m
    · exact y.lists b m
  | .seq k, _, _, _, ⟨p, us, ass, e, h, x, z⟩, b, m => by
    subst z
    rcases List.mem_cons.mp m with m | m
    · exact ⟨us, by rw [m]; exact h⟩
    · obtain ⟨as, m1, m2⟩ := List.mem_flatten.mp m
      have all : ∀ {xs : List (Val k)} {us : List V} {ass : List (List Addr)}, All3 (VAt H k) xs us ass → ∀ as ∈ ass, ∀ b ∈ as, ∃ us, H b = some (.lst us) := by
        intro xs us ass h
        induction h with
        | nil => intro _ m; cases m
        | cons a _ ih =>
          intro as m b mb
          rcases List.mem_cons.mp m with m | m
          · rw [m] at mb; exact a.lists b mb
          · exact ih as m b mb
      exact all x as m1 b m2
/-- a value stays where some lists are changed that are not its own -/
theorem VAt.off {H H' : Hp} {cs : List Addr} (hc : ∀ b ∈ cs, ∀ xs, H b ≠ some (.tup xs)) (f : ∀ b o, b ∉ cs → H b = some o → H' b = some o) {k : Kd} {x : Val k} {v : V} {as : List Addr} (h : VAt H k x v as) (d : ∀ b ∈ as, b ∉ cs) : VAt H' k x v as :=
  h.keep (fun b xs e => f b _ (fun m => hc b m xs e) e) fun b m o e => f b o (d b m) e
/-! ### as data -/
def dat : (k : Kd) → Val k → PyData
  | .num, n => .int n
  | .pair a b, xy => .tuple [dat a xy.1, dat b xy.2]
  | .seq a, xs => .list (xs.map (dat a))
theorem all_dp {K : PySem.W.Frag} {H : Hp} {α : Type} {R : α → V → List Addr → Prop} {f : α → PyData} (g : ∀ x u as, R x u as → Dp K H u (f x)) {xs : List α} {us : List V} {ass : List (List Addr)} (h : All3 R xs us ass) : DpAll K H us (xs.map f) := by
  induction h with
  | nil => exact .nil
  | cons a _ ih => exact .cons (g _ _ _ a) ih
theorem VAt.dp {K : PySem.W.Frag} {H : Hp} : ∀ {k : Kd} {x : Val k} {v : V} {as : List Addr}, VAt H k x v as → Dp K H v (dat k x)
  | .num, n, _, _, h => by rw [h.1]; exact .int n
  | .pair a b, _, _, _, ⟨p, u, w, as1, as2, e, h, x, y, z⟩ => by
    rw [e]
    exact .tup (.inl (.inl h)) (.cons x.dp (.cons y.dp .nil))
  | .seq k, xs, _, _, ⟨p, us, ass, e, h, x, z⟩ => by
    rw [e]
    exact .lst (.inl (.inl h)) (all_dp (R := VAt H k) (fun x u as r => r.dp) x)
/-- bounds: numbers of the range, lists of at most L items -/
def Bd (L : Nat) : (k : Kd) → Val k → Prop
  | .num, n => InR n
  | .pair a b, xy => Bd L a xy.1 ∧ Bd L b xy.2
  | .seq a, xs => (lst xs).length ≤ L ∧ ∀ x ∈ lst xs, Bd L a x
theorem Bd.mono {L M : Nat} (h : L ≤ M) : ∀ {k : Kd} {x : Val k}, Bd L k x → Bd M k x
  | .num, _, b => b
  | .pair _ _, _, b => ⟨b.1.mono h, b.2.mono h⟩
  | .seq _, _, b => ⟨Nat.le_trans b.1 h, fun x m => (b.2 x m).mono h⟩
theorem lay_all {α : Type} {f : α → PyData} (xs : List α) (h : ∀ x ∈ xs, PyData.canLay0 (f x) = true) : PyData.canLayAll0 (xs.map f) = true := by
  induction xs with
  | nil => rfl
  | cons x r ih =>
    show (PyData.canLay0 (f x) && PyData.canLayAll0 (r.map f)) = true
    rw [h x (List.mem_cons_self ..), ih fun y m => h y (List.mem_cons_of_mem _ m)]
    rfl
theorem dat_lay : ∀ (k : Kd) (x : Val k), PyData.canLay0 (dat k x) = true
  | .num, _ => rfl
  | .pair a b, xy => by
    show (PyData.canLay0 (dat a xy.1) && (PyData.canLay0 (dat b xy.2) && true)) = true
    rw [dat_lay a, dat_lay b]
    rfl
  | .seq a, xs => lay_all xs fun x _ => dat_lay a x
theorem depth_all {α : Type} {f : α → PyData} {n : Nat} (xs : List α) (h : ∀ x ∈ xs, (f x).depth ≤ n) : PyData.depthAll (xs.map f) ≤ n := by
  induction xs with
  | nil => exact Nat.zero_le _
  | cons x r ih =>
    show max (f x).depth (PyData.depthAll (r.map f)) ≤ n
    have := h x (List.mem_cons_self ..)
    have := ih fun y m => h y (List.mem_cons_of_mem _ m)
    omega
theorem dat_depth : ∀ (k : Kd) (x : Val k), (dat k x).depth ≤ k.dep
  | .num, _ => Nat.zero_le _
  | .pair a b, xy => by
    show max (dat a xy.1).depth (max (dat b xy.2).depth 0) + 1 ≤ max a.dep b.dep + 1
    have := dat_depth a xy.1
    have := dat_depth b xy.2
    omega
  | .seq a, xs => by
    show PyData.depthAll (xs.map (dat a)) + 1 ≤ a.dep + 1
    have := depth_all (f := dat a) (n := a.dep) xs fun x _ => dat_depth a x
    omega
theorem dat_shaped {k : Kd} (x : Val k) (h : k.dep ≤ 60) : SeqAt.shaped (dat k x) = true := by
  unfold SeqAt.shaped
  rw [dat_lay, decide_eq_true (Nat.le_trans (dat_depth k x) (by omega))]
  rfl
theorem nodict_all {α : Type} {f : α → PyData} (xs : List α) (h : ∀ x ∈ xs, (f x).hasDict = false) : PyData.hasDictAll (xs.map f) = false := by
  induction xs with
  | nil => rfl
  | cons x r ih =>
    show ((f x).hasDict || PyData.hasDictAll (r.map f)) = false
    rw [h x (List.mem_cons_self ..), ih fun y m => h y (List.mem_cons_of_mem _ m)]
    rfl
theorem dat_nodict : ∀ (k : Kd) (x : Val k), (dat k x).hasDict = false
  | .num, _ => rfl
  | .pair a b, xy => by
    show ((dat a xy.1).hasDict || ((dat b xy.2).hasDict || false)) = false
    rw [dat_nodict a, dat_nodict b]
    rfl
  | .seq a, xs => nodict_all xs fun x _ => dat_nodict a x
theorem showable_all {α : Type} {f : α → PyData} (xs : List α) (h : ∀ x ∈ xs, (f x).showable = true) : PyData.showableAll (xs.map f) = true := by
  induction xs with
  | nil => rfl
  | cons x r ih =>
    show ((f x).showable && PyData.showableAll (r.map f)) = true
    rw [h x (List.mem_cons_self ..), ih fun y m => h y (List.mem_cons_of_mem _ m)]
    rfl
theorem inR_small {n : Int} (h : InR n) : n.natAbs < 10 ^ 10 := by unfold InR at h; omega
theorem dat_showable {L : Nat} : ∀ {k : Kd} {x : Val k}, Bd L k x → (dat k x).showable = true
  | .num, n, b => by
    show decide ((int n).natAbs.log2 < 1920) = true
    refine decide_eq_true ?_
    have h : InR (int n) := b
    exact Nat.lt_of_lt_of_le (PySem.Flt.log2_lt_of (n := (int n).natAbs) (k := 34) (by decide) (by unfold InR at h; omega)) (by decide)
  | .pair a c, xy, b => by
    show ((dat a xy.1).showable && ((dat c xy.2).showable && true)) = true
    rw [dat_showable b.1, dat_showable b.2]
    rfl
  | .seq a, xs, b => showable_all xs fun x m => dat_showable (b.2 x m)
/-- the length of the text at most -/
def Sh (L : Nat) : Kd → Nat
  | .num => 11
  | .pair a b => Sh L a + Sh L b + 7
  | .seq a => L * (Sh L a + 2) + 3
theorem sum_shown {α : Type} {f : α → PyData} {n : Nat} (xs : List α) (h : ∀ x ∈ xs, (f x).shown.length ≤ n) : ((PyData.shownAll (xs.map f)).map (·.length)).sum ≤ xs.length * n := by
  induction xs with
  | nil => exact Nat.le_of_eq (Nat.zero_mul n).symm
  | cons x r ih =>
    show (f x).shown.length + ((PyData.shownAll (r.map f)).map (·.length)).sum ≤ (r.length + 1) * n
    have := h x (List.mem_cons_self ..)
    have := ih fun y m => h y (List.mem_cons_of_mem _ m)
    rw [Nat.succ_mul]
    omega
theorem dat_shown {L : Nat} : ∀ {k : Kd} {x : Val k}, Bd L k x → (dat k x).shown.length ≤ Sh L k
  | .num, n, b => by
    show (Str.ofString (toString (int n))).length ≤ 11
    have h : InR (int n) := b
    have e := int_text_length_le10 (a := int n) (k := 10) (by decide) (inR_small h)
    rw [PySem.ofString_length]; exact e
  | .pair a c, xy, b => by
    have h1 := dat_shown b.1
    have h2 := dat_shown b.2
    have h3 := tupleText_len_le [(dat a xy.1).shown, (dat c xy.2).shown]
    simp only [List.map_cons, List.map_nil, List.sum_cons, List.sum_nil, List.length_cons, List.length_nil] at h3
    show (tupleText [(dat a xy.1).shown, (dat c xy.2).shown]).length ≤ Sh L a + Sh L c + 7
    omega
  | .seq a, xs, b => by
    have h2 := listText_len_le (PyData.shownAll ((lst xs).map (dat a)))
    have h3 := PyData.shownAll_length ((lst xs).map (dat a))
    have h1 := sum_shown (f := dat a) (n := Sh L a) (lst xs) fun x m => dat_shown (b.2 x m)
    have h3 : (PyData.shownAll ((lst xs).map (dat a))).length = (lst xs).length := h3.trans (List.length_map _)
    have h4 : (lst xs).length * Sh L a ≤ L * Sh L a := Nat.mul_le_mul_right _ b.1
    have h5 := b.1
    show (listText (PyData.shownAll ((lst xs).map (dat a)))).length ≤ L * (Sh L a + 2) + 3
    rw [Nat.mul_add]
    omega
theorem Sh_le {L : Nat} (hL : 2 ≤ L) : ∀ k : Kd, Sh L k + 3 ≤ 14 * (L + 1) ^ (k.dep - 1)
  | .num => by show 11 + 3 ≤ 14 * 1; decide
  | .pair a b => by
    have h1 := Sh_le hL a
    have h2 := Sh_le hL b
    have d1 : a.dep - 1 ≤ max a.dep b.dep - 1 := by omega
    have d2 : b.dep - 1 ≤ max a.dep b.dep - 1 := by omega
    have p1 := Nat.pow_le_pow_right (n := L + 1) (by omega) d1
    have p2 := Nat.pow_le_pow_right (n := L + 1) (by omega) d2
    have m : (Kd.pair a b).dep - 1 = (max a.dep b.dep - 1) + 1 := by
      have : 1 ≤ a.dep := by cases a <;> simp [Kd.dep]
      show max a.dep b.dep + 1 - 1 = _
      omega
    rw [m, Nat.pow_succ]
    have q : 1 ≤ (L + 1) ^ (max a.dep b.dep - 1) := Nat.pow_pos (by omega)
    have r : (L + 1) ^ (max a.dep b.dep - 1) * 3 ≤ (L + 1) ^ (max a.dep b.dep - 1) * (L + 1) := Nat.mul_le_mul_left _ (by omega)
    show Sh L a + Sh L b + 7 + 3 ≤ _
    omega
  | .seq a => by
    have h1 := Sh_le hL a
    have m : (Kd.seq a).dep - 1 = (a.dep - 1) + 1 := by
      have : 1 ≤ a.dep := by cases a <;> simp [Kd.dep]
      show a.dep + 1 - 1 = _
      omega
    rw [m, Nat.pow_succ]
    have q : 1 ≤ (L + 1) ^ (a.dep - 1) := Nat.pow_pos (by omega)
    have r : L * (Sh L a + 3) ≤ L * (14 * (L + 1) ^ (a.dep - 1)) := Nat.mul_le_mul_left _ h1
    have e : 14 * ((L + 1) ^ (a.dep - 1) * (L + 1)) = L * (14 * (L + 1) ^ (a.dep - 1)) + 14 * (L + 1) ^ (a.dep - 1) := by
      rw [Nat.mul_comm L, Nat.mul_add, Nat.mul_one, Nat.mul_add, Nat.mul_assoc]
    have e2 : L * (Sh L a + 2) + L = L * (Sh L a + 3) := by rw [Nat.mul_add, Nat.mul_add]; omega
    show L * (Sh L a + 2) + 3 + 3 ≤ _
    rw [e]
    omega
end KV

namespace MX
open PySem PySem.Spec PyProof.Rows L2
/-! ### match over texts -/
/-- the texts that a pattern names -/
def one : Pattern → Option Str
  | .MatchValue (.Constant (.str c) _ _) _ => some c
  | _ => none
def ones : List Pattern → Option (List Str)
  | [] => some []
  | p :: r => match one p, ones r with
    | some c, some cs => some (c :: cs)
    | _, _ => none
theorem ones_inv {p : Pattern} {r : List Pattern} {cs : List Str} (h : ones (p :: r) = some cs) : ∃ c cs', one p = some c ∧ ones r = some cs' ∧ cs = c :: cs' := by
  unfold ones at h
  split at h
  · rename_i c cs' e1 e2
    cases h
    exact ⟨c, cs', e1, e2, rfl⟩
  · cases h
def texts : Pattern → Option (List Str)
  | .MatchOr ps _ => ones ps
  | p => (one p).map fun c => [c]
theorem one_inv {p : Pattern} {c : Str} (h : one p = some c) : ∃ j a b, p = .MatchValue (.Constant (.str c) j a) b := by
  unfold one at h
  split at h
  · cases h; exact ⟨_, _, _, rfl⟩
  · cases h
abbrev TC := V → TS
section
variable {X : Cx}
structure PMc (X : Cx) (cs : List MatchCase) (t : TC) : Prop where
  run : ∀ (first : Bool) (pins : List (Addr × Obj)) (s : Shared) (σ : L2.St) (H : Hp) (v : V) (u : Value) (D : Ends), Inv X pins σ H s → RelV v u → t v D σ H → wpAny (model X.prog X.w) X.A (matchCases cs X.env u first) (SP X pins D) X.xe s
theorem one_run {p : Pattern} {c z : Str} {t : Tok} {pins : List (Addr × Obj)} {s : Shared} {σ : L2.St} {H : Hp} {E : Value → Shared → Prop} {Q : Option (List (Str × Value)) → Shared → Prop} (h : one p = some c) (I : Inv X pins σ H s)
    (q : ∀ s', Inv X pins σ H s' → Q (if z = c then some [] else none) s') : wpAny (model X.prog X.w) X.A (matchPattern p X.env (.str z t)) Q E s := by
  obtain ⟨j, a, b, rfl⟩ := one_inv h
  refine wpAny_matchPattern_Value (Calls.Constant_str (PyProof.Rows.eq_str (wpAny_truthy_bool ?_)))
  have qq := q _ (I.tok (s.toks + 1))
  by_cases e : z = c
  · rw [if_pos e] at qq
    rw [if_pos (by rw [e]; exact beq_self_eq_true c)]
    exact qq
  · rw [if_neg e] at qq
    rw [if_neg (by simpa using e)]
    exact qq
theorem first_run {z : Str} {t : Tok} {pins : List (Addr × Obj)} {σ : L2.St} {H : Hp} {E : Value → Shared → Prop} : ∀ {ps : List Pattern} {cs : List Str} {s : Shared} {Q : Option (List (Str × Value)) → Shared → Prop}, ones ps = some cs → Inv X pins σ H s →
    (∀ s', Inv X pins σ H s' → Q (if z ∈ cs then some [] else none) s') → wpAny (model X.prog X.w) X.A (matchFirst ps X.env (.str z t)) Q E s
  | [], cs, s, Q, h, I, q => by
    cases h
    exact wpAny_matchFirst_nil (by have := q s I; rw [if_neg (List.not_mem_nil)] at this; exact this)
  | p :: ps, _, s, Q, h, I, q => by
        obtain ⟨c, r, e1, e2, rfl⟩ := ones_inv h
        refine wpAny_matchFirst_cons (one_run e1 I fun s1 I1 => ?_)
        by_cases c1 : z = c
        · rw [if_pos c1]
          have qq := q s1 I1
          rw [if_pos (by rw [c1]; exact List.mem_cons_self)] at qq
          exact qq
        · rw [if_neg c1]
          refine first_run e2 I1 fun s2 I2 => ?_
          have qq := q s2 I2
          by_cases c2 : z ∈ r
          · rw [if_pos (List.mem_cons_of_mem _ c2)] at qq
            rw [if_pos c2]
            exact qq
          · rw [if_neg (fun m => (List.mem_cons.mp m).elim c1 c2)] at qq
            rw [if_neg c2]
            exact qq
theorem nonames : ∀ {ps : List Pattern} {cs : List Str}, ones ps = some cs → namesOfAll (ps.take 1) = []
  | [], _, _ => rfl
  | p :: ps, cs, h => by
    obtain ⟨c, r, e1, e2, rfl⟩ := ones_inv h
    obtain ⟨j, a, b, rfl⟩ := one_inv e1
    rfl
theorem pat_run {p : Pattern} {cs : List Str} {z : Str} {t : Tok} {pins : List (Addr × Obj)} {s : Shared} {σ : L2.St} {H : Hp} {E : Value → Shared → Prop} {Q : Option (List (Str × Value)) → Shared → Prop} (h : texts p = some cs) (I : Inv X pins σ H s)
    (q : ∀ s', Inv X pins σ H s' → Q (if z ∈ cs then some [] else none) s') : wpAny (model X.prog X.w) X.A (matchPattern p X.env (.str z t)) Q E s := by
  unfold texts at h
  split at h
  · rename_i ps pos
    refine wpAny_matchPattern_Or (first_run h I fun s1 I1 => ?_)
    have qq := q s1 I1
    by_cases c : z ∈ cs
    · rw [if_pos c] at qq ⊢
      rw [nonames h]
      exact qq
    · rw [if_neg c] at qq ⊢
      exact qq
  · cases e : one p with
    | none => rw [e] at h; cases h
    | some c =>
      rw [e] at h
      cases h
      refine one_run e I fun s1 I1 => ?_
      have qq := q s1 I1
      by_cases c1 : z = c
      · rw [if_pos (by rw [c1]; exact List.mem_singleton.mpr rfl)] at qq
        rw [if_pos c1]
        exact qq
      · rw [if_neg (fun m => c1 (List.mem_singleton.mp m))] at qq
        rw [if_neg c1]
        exact qq
def tMnil : TC := fun _ D σ H => D.nx σ H
def tMtx (cs : List Str) (tb : TS) (r : TC) : TC := fun v D σ H => ∃ z, v = .str z ∧ if z ∈ cs then tb D σ H else r v D σ H
def tMany (tb : TS) : TC := fun _ D σ H => tb D σ H
def tMcap (i : Nat) (tb : TS) : TC := fun v D σ H => tb D (σ.set i (some v)) H
theorem pmc_nil : PMc X [] tMnil := ⟨fun _ _ _ σ H _ _ _ I _ h => wpAny_matchCases_nil ⟨σ, H, I, h⟩⟩
theorem pmc_tx {p : Pattern} {body : List Stmt} {rest : List MatchCase} {cs : List Str} {tb : TS} {r : TC} (h : texts p = some cs) (hb : PSs X body tb) (hr : PMc X rest r) : PMc X (⟨p, none, body⟩ :: rest) (tMtx cs tb r) := by
  refine ⟨fun first pins s σ H v u D I rv q => ?_⟩
  obtain ⟨z, rfl, q⟩ := q
  obtain ⟨t, rfl⟩ := rv
  refine wpAny_matchCases_cons (pat_run h I fun s1 I1 => ?_)
  by_cases c : z ∈ cs
  · rw [if_pos c] at q ⊢
    exact wpAny_assignInOrder_none (hb.run pins s1 σ H D I1 q)
  · rw [if_neg c] at q ⊢
    exact hr.run false pins s1 σ H (.str z) (.str z t) D I1 ⟨t, rfl⟩ q
theorem pmc_any {body : List Stmt} {rest : List MatchCase} {pos : Pos} {tb : TS} (hb : PSs X body tb) : PMc X (⟨.MatchAs none none pos, none, body⟩ :: rest) (tMany tb) :=
  ⟨fun first pins s σ H v u D I rv q => wpAny_matchCases_cons (wpAny_matchPattern_Capture (wpAny_assignInOrder_none (hb.run pins s σ H D I q)))⟩
theorem pmc_cap {body : List Stmt} {rest : List MatchCase} {pos : Pos} {n : Str} {i : Nat} {tb : TS} (hN : X.N.Nodup) (hi : X.N[i]? = some n) (hx : Loc X.env.scope n) (hb : PSs X body tb)
    (hf : X.fn n = true ∨ X.env.scope.names.lookup n = some .local := by first | exact .inl rfl | exact .inr rfl) : PMc X (⟨.MatchAs none (some n) pos, none, body⟩ :: rest) (tMcap i tb) := by
  refine ⟨fun first pins s σ H v u D I rv q => wpAny_matchCases_cons (wpAny_matchPattern_Capture ?_)⟩
  refine wpAny_assignInOrder_more (wpAny_bindName (store_ok I hN hi hx rv (fun s1 I1 => wpAny_assignInOrder_none (hb.run pins s1 _ H D I1 q)) hf))
/-- match e: .. -/
def tMatch (te : TE) (r : TC) : TS := fun D σ H => te σ H fun v H1 => r v D σ H1
theorem ps_match {e : Expr} {cases : List MatchCase} {pos : Pos} {te : TE} {r : TC} (he : PE X e te) (hc : PMc X cases r) : PS X (.Match e cases pos) (tMatch te r) :=
  ⟨fun pins s σ H D I h => wpAny_Match (thn (he.run pins s σ H _ I h) fun u s1 ⟨v, H1, I1, rv, q⟩ => hc.run true pins s1 σ H1 v u D I1 rv q)⟩
end
end MX

namespace ET
open PySem PySem.Spec PyProof.Rows L2
/-- xs.extend(t), t a tuple -/
theorem ext_tup (l : Addr) (items : Array Value) (n : Nat) (b : Addr) (items2 : Array Value) (h0 : ¬ (!items.isEmpty && Builtin.List.listTooLong (items.size + items2.size)) = true) (h1 : items.size ≤ sizeLine) (h2 : items.size + items2.size ≤ sizeLine + 1) :
    Meets (Builtin.«list.extend» ⟨[.ref l, .ref b], []⟩) (fun _ R s => s.heap.get? l = some { cls := .type "list", dict := none, data := .seq items n, slots := #[] } ∧ (∃ o m, s.heap.get? b = some o ∧ o.cls = .type "tuple" ∧ o.data = .seq items2 m) ∧ R (.ok (.ret Value.none)) { s with heap := s.heap.update l (Obj.mapSeq fun x => x ++ items2) }) := by
  intro prog w A R s h
  obtain ⟨hS, ⟨o, m, ho, hc, hd⟩, hR⟩ := h
  show wpAny _ A.in1 (Builtin.List.listExtendWith (.ref l) (.ref b) .none) _ _ s
  unfold Builtin.List.listExtendWith
  refine wpAny_bind (wpAny_typeOf ⟨o, ho, hc⟩ ?_)
  have e1 : (Builtin.List.listSameRef (.ref l) (.ref b) || Value.type "tuple" == Value.type "list" || Value.type "tuple" == Value.type "tuple") = true := by simp
  simp only [e1, if_true]
  refine wpAny_bind ?_
  unfold Builtin.List.listItems
  refine wpAny_bind (wpAny_seqItems ho hd (wpAny_pure ?_))
  refine wpAny_bind ?_
  refine wpAny_bind (wpAny_seqItems hS rfl (wpAny_pure ?_))
  rw [if_neg h0]
  show wpAny _ A.in1 (updateSeq l (· ++ items2) >>= fun _ => PySem.ret .none) _ _ s
  have hz' : (items ++ items2).size ≤ sizeLine + 1 := by rw [Array.size_append]; exact h2
  refine wpAny_bind (wpAny_updateSeq hS rfl (hz := h1) (_hz' := hz') ?_)
  exact wpAny_pure hR
section
variable {X : Cx}
def rExtT (K : PySem.W.Frag) : V → List V → Hp → VK → Prop := fun x vs H Q => ∃ l b xs zs, x = .ref l ∧ vs = [.ref b] ∧ H l = some (.lst xs) ∧ SqT K H b zs ∧ xs.length + zs.length ≤ sizeLine ∧ Q .non (upd H l (.lst (xs ++ zs)))
theorem mt_extT : MtM X "list.extend" (rExtT X.K) := by
  intro pins s σ H x vs v us Q I rx rv h
  obtain ⟨l, b, xs, zs, rfl, rfl, hH, hB, hz, q⟩ := h
  cases rx
  obtain ⟨u, rfl, ru⟩ := rv.one
  cases ru
  obtain ⟨z, its, n, r, hl, e⟩ := I.lstM hH
  obtain ⟨its2, r2, ⟨o, ho, hc, m, hd⟩, z2⟩ := I.tuple hB
  have hl2 := r2.length
  have hsz : its.toArray.size + its2.toArray.size ≤ sizeLine := by rw [List.size_toArray, List.size_toArray]; omega
  have hlong : ¬ (!its.toArray.isEmpty && Builtin.List.listTooLong (its.toArray.size + its2.toArray.size)) = true := by
    rw [notLongL hsz, Bool.and_false]
    exact Bool.false_ne_true
  refine call_meets F.slot_list_extend ⟨_, e, rfl⟩ F.entry_list_extend (F.args_list_extend_2 _ _)
    (ext_tup l its.toArray n b its2.toArray hlong (by rw [List.size_toArray]; omega) (by omega)) ⟨e, ⟨o, m, ho, hc, hd⟩, ?_⟩
  refine ⟨.non, _, I.lset (its' := its ++ its2) hH e (by simp) (r.append r2) ?_, rfl, q⟩
  rw [List.length_append]
  omega
end
end ET

namespace K5
open PySem PySem.Spec PyProof.Rows L2
def top (i : Nat) : Stmt := PySem.Challenge.pw_flatsheaves_k05_layouts.main.body.getD i (.Pass ⟨0, 0, 0, 0⟩)
abbrev s_vectors_of : Stmt := top 1
theorem sc_vectors_of : FnScope ["kind", "values", "vectors", "waiting", "part", "lanes", "row", "_", "second", "first", "value"] ["kind", "values"] (defScope s_vectors_of) := ⟨rfl, rfl, rfl, by decide +kernel, rfl, by decide +kernel, by decide +kernel⟩
abbrev s_values_of : Stmt := top 2
theorem sc_values_of : FnScope ["kind", "vectors", "rest", "done", "form", "first", "second"] ["kind", "vectors"] (defScope s_values_of) := ⟨rfl, rfl, rfl, by decide +kernel, rfl, by decide +kernel, by decide +kernel⟩
abbrev s_forms_of : Stmt := top 3
theorem sc_forms_of : FnScope ["kind", "forms", "waiting", "part"] ["kind"] (defScope s_forms_of) := ⟨rfl, rfl, rfl, by decide +kernel, rfl, by decide +kernel, by decide +kernel⟩
abbrev s_cut : Stmt := top 4
theorem sc_cut : FnScope ["values", "lengths", "rows", "start", "length"] ["values", "lengths"] (defScope s_cut) := ⟨rfl, rfl, rfl, by decide +kernel, rfl, by decide +kernel, by decide +kernel⟩
abbrev s_law_state : Stmt := top 6
theorem sc_law_state : FnScope ["script", "seed", "cell"] ["script"] (defScope s_law_state) := ⟨rfl, rfl, rfl, by decide +kernel, rfl, by decide +kernel, by decide +kernel⟩
abbrev s_law_draw : Stmt := top 7
theorem sc_law_draw : FnScope ["state", "many", "cells", "value", "mixed"] ["state", "many"] (defScope s_law_draw) := ⟨rfl, rfl, rfl, by decide +kernel, rfl, by decide +kernel, by decide +kernel⟩
abbrev s_law_pick : Stmt := top 8
theorem sc_law_pick : FnScope ["state", "row"] ["state", "row"] (defScope s_law_pick) := ⟨rfl, rfl, rfl, by decide +kernel, rfl, by decide +kernel, by decide +kernel⟩
abbrev s_law_number : Stmt := top 9
theorem sc_law_number : FnScope ["state", "edges"] ["state"] (defScope s_law_number) := ⟨rfl, rfl, rfl, by decide +kernel, rfl, by decide +kernel, by decide +kernel⟩
abbrev s_law_kind : Stmt := top 10
theorem sc_law_kind : FnScope ["state", "deep", "choice"] ["state", "deep"] (defScope s_law_kind) := ⟨rfl, rfl, rfl, by decide +kernel, rfl, by decide +kernel, by decide +kernel⟩
abbrev s_law_value : Stmt := top 11
theorem sc_law_value : FnScope ["state", "kind", "k"] ["state", "kind"] (defScope s_law_value) := ⟨rfl, rfl, rfl, by decide +kernel, rfl, by decide +kernel, by decide +kernel⟩
abbrev s_law_lanes : Stmt := top 12
theorem sc_law_lanes : FnScope ["kind", "values", "first", "inner", "items", "value", "pair"] ["kind", "values"] (defScope s_law_lanes) := ⟨rfl, rfl, rfl, by decide +kernel, rfl, by decide +kernel, by decide +kernel⟩
abbrev s_law_spoil : Stmt := top 13
theorem sc_law_spoil : FnScope ["value", "item"] ["value"] (defScope s_law_spoil) := ⟨rfl, rfl, rfl, by decide +kernel, rfl, by decide +kernel, by decide +kernel⟩
abbrev s_law : Stmt := top 14
theorem sc_law : FnScope ["script", "state", "kind", "values", "before", "vectors", "given", "back", "k"] ["script"] (defScope s_law) := ⟨rfl, rfl, rfl, by decide +kernel, rfl, by decide +kernel, by decide +kernel⟩
/-! ### what stands where -/
structure DefAt (K : PySem.W.Frag) (mg : Str → Option Value) (x : Str) (st : Stmt) (ps : List Str) (f : Addr × FuncData) : Prop where
  F : Fun K x x st f.1 f.2
  g : mg x = some (.ref f.1)
  b : Binds K f.2 ps []
/-! the defs that draw programs -/
structure GAd where
  vectors_of : Addr × FuncData
  values_of : Addr × FuncData
  forms_of : Addr × FuncData
  cut : Addr × FuncData
  law_state : Addr × FuncData
  law_draw : Addr × FuncData
  law_pick : Addr × FuncData
  law_number : Addr × FuncData
  law_kind : Addr × FuncData
  law_value : Addr × FuncData
  law_lanes : Addr × FuncData
  law_spoil : Addr × FuncData
  law : Addr × FuncData
structure GTxt (K : PySem.W.Frag) (mg : Str → Option Value) (a : GAd) : Prop where
  vectors_of : DefAt K mg "vectors_of" s_vectors_of ["kind", "values"] a.vectors_of
  values_of : DefAt K mg "values_of" s_values_of ["kind", "vectors"] a.values_of
  forms_of : DefAt K mg "forms_of" s_forms_of ["kind"] a.forms_of
  cut : DefAt K mg "cut" s_cut ["values", "lengths"] a.cut
  law_state : DefAt K mg "_law_state" s_law_state ["script"] a.law_state
  law_draw : DefAt K mg "_law_draw" s_law_draw ["state", "many"] a.law_draw
  law_pick : DefAt K mg "_law_pick" s_law_pick ["state", "row"] a.law_pick
  law_number : DefAt K mg "_law_number" s_law_number ["state"] a.law_number
  law_kind : DefAt K mg "_law_kind" s_law_kind ["state", "deep"] a.law_kind
  law_value : DefAt K mg "_law_value" s_law_value ["state", "kind"] a.law_value
  law_lanes : DefAt K mg "_law_lanes" s_law_lanes ["kind", "values"] a.law_lanes
  law_spoil : DefAt K mg "_law_spoil" s_law_spoil ["value"] a.law_spoil
  law : DefAt K mg "law" s_law ["script"] a.law
  len : mg "len" = none
  abs : mg "abs" = none
  int : mg "int" = none
  list : mg "list" = none
  zip : mg "zip" = none
  reversed : mg "reversed" = none
  range : mg "range" = none
  isinstance : mg "isinstance" = none
  repr : mg "repr" = none
  tuple : mg "tuple" = none
end K5

namespace K5
open PySem PySem.Spec PyProof.Rows L2 KV
section
variable {P : Program} {w : World} {K : PySem.W.Frag} {mg : Str → Option Value} {base : Heap} {a : GAd}
/-! ### what is drawn -/
def StAt (H : Hp) (st c : Addr) : Prop := ∃ (ns : List Int) (z : Int), H st = some (.lst [.ref c, .int z]) ∧ H c = some (.lst (ns.map V.int))
theorem StAt.ne {H : Hp} {st c : Addr} (h : StAt H st c) : st ≠ c := by
  obtain ⟨ns, z, h1, h2⟩ := h
  refine ne_of h1 h2 fun e => ?_
  cases ns with
  | nil => cases e
  | cons x r => cases e
def Go (st c : Addr) (H H' : Hp) : Prop := (∀ b o, b ≠ st → b ≠ c → H b = some o → H' b = some o) ∧ StAt H' st c
theorem Go.trans {st c : Addr} {H H1 H2 : Hp} (x : Go st c H H1) (y : Go st c H1 H2) : Go st c H H2 := ⟨fun b o h1 h2 e => y.1 b o h1 h2 (x.1 b o h1 h2 e), y.2⟩
theorem same_new {H : Hp} {p : Addr} (h : H p = none) (o : HO) : Same H (upd H p o) := fun b u q => by rw [upd_ne (ne_of_none q h)]; exact q
theorem StAt.keep {H H' : Hp} {st c : Addr} (h : StAt H st c) (k : Same H H') : StAt H' st c := by
  obtain ⟨ns, z, h1, h2⟩ := h
  exact ⟨ns, z, k _ _ h1, k _ _ h2⟩
theorem Go.same {st c : Addr} {H H1 : Hp} (h : StAt H st c) (k : Same H H1) : Go st c H H1 := ⟨fun b o _ _ e => k b o e, h.keep k⟩
theorem ifF {c : Bool} {A B : Prop} (h : c = false) (q : B) : if c = true then A else B := by rw [h]; exact iteF q
theorem ifT {c : Bool} {A B : Prop} (h : c = true) (q : A) : if c = true then A else B := by rw [h]; exact iteT q
theorem int_at {ns : List Int} {i : Nat} {y : V} (h : (ns.map V.int)[i]? = some y) : i < ns.length ∧ ∃ u, y = V.int u := by
  rw [List.getElem?_map] at h
  cases e : ns[i]? with
  | none => rw [e] at h; cases h
  | some u =>
    rw [e] at h
    exact ⟨(List.getElem?_eq_some_iff.mp e).1, u, (Option.some.inj h).symm⟩
def spState (K : PySem.W.Frag) : Sp := fun vs H Q _ => ∃ (p : Addr) (ns : List Int), vs = [.ref p] ∧ SqL K H p (ns.map V.int) ∧ ns.length ≤ 63 ∧ ∀ H' st c, Same H H' → H st = none → H c = none → StAt H' st c → Q (.ref st) H'
theorem ok_law_state (T : GTxt K mg a) : FnOk P w K mg base CX0 1 a.law_state.1 a.law_state.2 ["script"] (spState K) := by
  refine T.law_state.F.ok sc_law_state (fun vs H Q E h => ?_) (fun cdv A outer s H vs Q E hr h => ?_)
  · obtain ⟨p, ns, rfl, _⟩ := h
    rfl
  obtain ⟨p, ns, rfl, hS, h63, q⟩ := h
  have nd := sc_law_state.nd
  refine ⟨_, (pss_cons (ps_set (i := 1) nd rfl (Or.inl rfl) pe_int)
  (pss_cons (ps_for PassesOwn.never rfl (pi_list (pv 0)) (pg_name (i := 2) nd rfl (Or.inl rfl)) (pss_one (ps_set (i := 1) nd rfl (Or.inl rfl) (pe_op op_mod (pe_callTy call_int1 (by rfl) T.int (by decide +kernel) (pa_cons (pe_op op_add (pe_op op_mul (pv 1) pe_int) (pv 2)) pa_nil)) pe_int))))
  (pss_one (ps_ret (pe_lst (pa_cons (pe_lc (own := [("cell", 2)]) (g := gName 2) (tt := tYes) rfl nd (pi_list (pv 0)) (blkOk_by (N := ["script", "seed", "cell"]) (sc := defScope s_law_state) (by decide +kernel)) (fun _ _ _ _ _ => (pg_name (i := 2) nd rfl (Or.inl rfl))) (fun _ _ _ _ _ => pts_nil) (fun _ _ _ _ _ => (pe_callB call_abs (by rfl) T.abs (by decide +kernel) (pa_cons (pe_callTy call_int1 (by rfl) T.int (by decide +kernel) (pa_cons (pv 2) pa_nil)) pa_nil)))) (pa_cons (pe_op op_add (pv 1) pe_int) pa_nil))))))), ?_⟩
  refine ⟨_, rfl, p, rfl, ⟨_, hS⟩, for_list (K := K) (a := p) (xs := ns.map V.int) (fun i σ H' => H' = H ∧ ∃ (z : Int) (v : Option V), σ = [some (.ref p), some (.int z), v]) ⟨rfl, 7, none, rfl⟩ (fun i σ H' _ h => by rw [h.1]; exact hS) ?_ ?_⟩
  · rintro i y σ H' hi ⟨rfl, z, v, rfl⟩
    obtain ⟨_, u, rfl⟩ := int_at hi
    exact ⟨_, rfl, _, _, rfl, rfl, .inr (by decide), _, rfl, _, _, rfl, rfl, .inl ⟨_, rfl, _, _, rfl, rfl, (by show (0 : Int) < 1000003; decide), rfl, _, _, rfl⟩⟩
  · rintro σ H' ⟨rfl, z, v, rfl⟩
    refine ⟨_, rfl, p, rfl, ⟨_, hS⟩, fun D hD => lc_list (K := K) (a := p) (xs := ns.map V.int) (fun i H1 => ∃ acc : List Int, H1 = upd H' D (.lst (acc.map V.int)) ∧ acc.length = i) ⟨[], rfl, rfl⟩ (fun i H1 _ h => ?_) ?_ ?_⟩
    · obtain ⟨acc, rfl, _⟩ := h
      exact (same_new hD _).seq hS
    · rintro i y H1 hi ⟨acc, rfl, hl⟩
      obtain ⟨hi63, u, rfl⟩ := int_at hi
      refine ⟨rfl, _, rfl, .inl ⟨_, rfl, _, rfl, _, upd_same, ?_, acc ++ [if u < 0 then -u else u], ?_, ?_⟩⟩
      · rw [List.length_map]; exact small1000 (by omega)
      · rw [List.map_append, upd_upd]; rfl
      · rw [List.length_append, hl]; rfl
    · rintro H1 ⟨acc, rfl, _⟩
      refine ⟨_, rfl, _, _, rfl, rfl, (by show 2 ≤ sizeLine; decide), fun st hst => ?_⟩
      have hst0 : H' st = none := (same_new hD _).free hst
      refine q _ st D ((same_new hD _).trans (same_new hst _)) hst0 hD ⟨acc, z + 1, upd_same, ?_⟩
      rw [upd_ne (ne_of_none upd_same hst)]
      exact upd_same
def spDraw : Sp := fun vs H Q _ => ∃ (st c : Addr) (m : Int), vs = [.ref st, .int m] ∧ StAt H st c ∧ 0 < m ∧ m < 1099511627776 ∧ ∀ H' n, Go st c H H' → 0 ≤ n → n < m → Q (.int n) H'
theorem ok_law_draw (T : GTxt K mg a) : FnOk P w K mg base CX0 1 a.law_draw.1 a.law_draw.2 ["state", "many"] spDraw := by
  refine T.law_draw.F.ok sc_law_draw (fun vs H Q E h => ?_) (fun cdv A outer s H vs Q E hr h => ?_)
  · obtain ⟨st, c, m, rfl, _⟩ := h
    rfl
  obtain ⟨st, c, m, rfl, hSt, h0, hm, q⟩ := h
  have nd := sc_law_draw.nd
  have hne := hSt.ne
  obtain ⟨ns, z, h1, h2⟩ := hSt
  refine ⟨_, (pss_cons (ps_set (i := 2) nd rfl (Or.inl rfl) (pe_ix ix_list (pv 0) pe_int (fun _ _ => rfl)))
  (pss_cons (ps_while PassesOwn.never (PW.pt (pw_and (pt_cmpR op_gt (pe_callB call_len_seq (by rfl) T.len PySem.boot_len (pa_cons (pv 2) pa_nil)) pe_int (nomark _)) (pw_and1 (pt_cmpR op_eq (pe_ix ix_list (pv 2) pe_int (fun _ _ => rfl)) pe_int (nomark _))))) (pss_one (ps_expr (pe_bm PySem.F.plainAttrs_list PySem.F.slot_list_pop PySem.F.type_list_pop mt_popAt (pv 2) (pa_cons pe_int pa_nil)))))
  (pss_cons (ps_if (pt_cmpR op_gt (pe_callB call_len_seq (by rfl) T.len PySem.boot_len (pa_cons (pv 2) pa_nil)) pe_int (nomark _)) (pss_cons (ps_set (i := 3) nd rfl (Or.inl rfl) (pe_ix ix_list (pv 2) pe_int (fun _ _ => rfl)))
  (pss_cons (ps_asg (pe_op op_fdivW (pv 3) (pv 1)) (pg_sub (pv 2) pe_int set_list))
  (pss_one (ps_ret (pe_op op_mod (pe_callTy call_int1 (by rfl) T.int (by decide +kernel) (pa_cons (pv 3) pa_nil)) (pv 1)))))) pss_nil)
  (pss_cons (ps_set (i := 4) nd rfl (Or.inl rfl) (pe_op op_mod (pe_callTy call_int1 (by rfl) T.int (by decide +kernel) (pa_cons (pe_op op_add (pe_op op_mul (pe_ix ix_list (pv 0) pe_int (fun _ _ => rfl)) pe_int) pe_int) pa_nil)) pe_int))
  (pss_cons (ps_asg (pv 4) (pg_sub (pv 0) pe_int set_list))
  (pss_one (ps_ret (pe_op op_mod (pe_callTy call_int1 (by rfl) T.int (by decide +kernel) (pa_cons (pe_op op_fdiv (pv 4) pe_int) pa_nil)) (pv 1))))))))), ?_⟩
  refine ⟨_, rfl, st, _, _, _, rfl, rfl, SqL.of h1, rfl, ?_⟩
  refine ⟨fun k σ H' => ∃ ns' : List Int, σ = [some (.ref st), some (.int m), some (.ref c), none, none] ∧ k = ns'.length ∧ H' st = some (.lst [.ref c, .int z]) ∧ H' c = some (.lst (ns'.map V.int)) ∧ (∀ b o, b ≠ st → b ≠ c → H b = some o → H' b = some o), ⟨ns.length, ns, rfl, rfl, h1, h2, fun _ _ _ _ e => e⟩, ?_⟩
  rintro k σ H' ⟨ns', rfl, rfl, g1, g2, g3⟩
  have fin : ∀ (ns2 : List Int) (z2 : Int) (H2 : Hp), H2 st = some (.lst [.ref c, .int z2]) → H2 c = some (.lst (ns2.map V.int)) → (∀ b o, b ≠ st → b ≠ c → H' b = some o → H2 b = some o) → Go st c H H2 := fun ns2 z2 H2 e1 e2 e3 => ⟨fun b o n1 n2 e => e3 b o n1 n2 (g3 b o n1 n2 e), ns2, z2, e1, e2⟩
  refine ⟨_, rfl, c, _, rfl, .inl (SqL.of g2), _, _, rfl, rfl, _, rfl, ?_⟩
  cases ns' with
  | nil =>
    refine ifF (by rw [List.map_nil]; decide) ?_
    refine ifF rfl ?_
    refine ⟨_, rfl, c, _, rfl, .inl (SqL.of g2), _, _, rfl, rfl, _, rfl, ?_⟩
    refine ifF (by rw [List.map_nil]; decide) ?_
    refine ⟨_, rfl, st, _, _, _, rfl, rfl, SqL.of g1, rfl, _, _, rfl, rfl, .inr (by decide), _, _, rfl, rfl, .inl ⟨_, rfl, _, _, rfl, rfl, (by show (0 : Int) < 2147483647; decide), ?_⟩⟩
    refine ⟨_, rfl, _, rfl, st, _, _, _, rfl, rfl, g1, rfl, ?_⟩
    refine ⟨_, rfl, _, _, rfl, rfl, (by constructor <;> decide), .inl ⟨_, rfl, _, rfl, _, _, rfl, rfl, h0, ?_⟩⟩
    refine q _ _ (fin [] _ _ upd_same ?_ fun b o n1 _ e => ?_) (Int.emod_nonneg _ (by omega)) (Int.emod_lt_of_pos _ h0)
    · rw [upd_ne hne.symm]; exact g2
    · rw [upd_ne n1]; exact e
  | cons x r =>
    refine ifT (by rw [List.length_map]; exact decide_eq_true (by simp)) ?_
    refine ⟨_, rfl, c, _, _, _, rfl, rfl, SqL.of g2, atI_nat (j := 0) rfl, rfl, _, rfl, ?_⟩
    refine ite2 (fun _ => ?_) (fun _ => ?_)
    · refine ⟨fun σ' H2 => ∃ ns2 : List Int, σ' = [some (.ref st), some (.int m), some (.ref c), none, none] ∧ ns2.length = r.length ∧ H2 st = some (.lst [.ref c, .int z]) ∧ H2 c = some (.lst (ns2.map V.int)) ∧ (∀ b o, b ≠ st → b ≠ c → H b = some o → H2 b = some o), ?_, ?_⟩
      · rintro σ' H2 ⟨ns2, e1, e2, e3⟩
        exact ⟨r.length, by rw [List.length_cons]; omega, ns2, e1, e2.symm, e3⟩
      · refine ⟨_, rfl, .inl ⟨rfl, _, SqL.of g2⟩, c, _, _, 0, _, rfl, rfl, g2, by decide, by decide, ?_, rfl, ?_⟩
        · rw [List.length_map, List.length_cons]
          unfold seqIndex?
          simp
        · refine ⟨r, rfl, rfl, ?_, upd_same, fun b o n1 n2 e => ?_⟩
          · rw [upd_ne hne]; exact g1
          · rw [upd_ne n2]; exact g3 b o n1 n2 e
    · refine ⟨_, rfl, c, _, rfl, .inl (SqL.of g2), _, _, rfl, rfl, _, rfl, ?_⟩
      refine ifT (by rw [List.length_map]; exact decide_eq_true (by simp)) ?_
      refine ⟨_, rfl, c, _, _, _, rfl, rfl, SqL.of g2, atI_nat (j := 0) rfl, ?_⟩
      refine ⟨_, rfl, _, rfl, _, _, rfl, rfl, wide_div (b := 40) h0 (by omega) (by decide) (by decide), ?_⟩
      refine ⟨_, rfl, c, _, _, 0, rfl, rfl, g2, by rw [List.length_map, List.length_cons]; simp [ixN], ?_⟩
      refine ⟨_, rfl, .inl ⟨_, rfl, _, rfl, _, _, rfl, rfl, h0, ?_⟩⟩
      refine q _ _ (fin (x / m :: r) z _ ?_ upd_same fun b o _ n2 e => ?_) (Int.emod_nonneg _ (by omega)) (Int.emod_lt_of_pos _ h0)
      · rw [upd_ne hne]; exact g1
      · rw [upd_ne n2]; exact e
def spPick : Sp := fun vs H Q _ => ∃ (st c r : Addr) (xs : List V), vs = [.ref st, .ref r] ∧ StAt H st c ∧ H r = some (.lst xs) ∧ r ≠ st ∧ r ≠ c ∧ 0 < xs.length ∧ xs.length ≤ 1000 ∧ ∀ H' x, Go st c H H' → x ∈ xs → Q x H'
theorem ok_law_pick (T : GTxt K mg a) : FnOk P w K mg base CX0 2 a.law_pick.1 a.law_pick.2 ["state", "row"] spPick := by
  refine T.law_pick.F.ok sc_law_pick (fun vs H Q E h => ?_) (fun cdv A outer s H vs Q E hr h => ?_)
  · obtain ⟨st, c, r, xs, rfl, _⟩ := h
    rfl
  obtain ⟨st, c, r, xs, rfl, hSt, hx, n1, n2, l0, l1, q⟩ := h
  have G_law_draw := ok_law_draw (P := P) (w := w) (base := base) T
  refine ⟨_, (pss_one (ps_ret (pe_ix ix_list (pv 1) (pe_call G_law_draw (hr.mono (by decide)) rfl T.law_draw.g T.law_draw.F.kp T.law_draw.b .nil pass0 (pa_cons (pv 0) (pa_cons (pe_callB call_len_seq (by rfl) T.len PySem.boot_len (pa_cons (pv 1) pa_nil)) pa_nil))) (fun _ _ => rfl)))), ?_⟩
  refine ⟨_, rfl, _, rfl, _, rfl, r, _, rfl, .inl (SqL.of hx), st, c, _, rfl, hSt, by omega, by omega, fun H' n g h0 h1 => ?_⟩
  have hk : n.toNat < xs.length := by omega
  have ek : n = ((n.toNat : Nat) : Int) := by omega
  refine ⟨r, xs, n, xs[n.toNat], rfl, rfl, SqL.of (g.1 _ _ n1 n2 hx), ?_, q _ _ g (List.getElem_mem hk)⟩
  have e : atI xs ((n.toNat : Nat) : Int) = some xs[n.toNat] := atI_nat (List.getElem?_eq_getElem hk)
  rw [← ek] at e
  exact e
def spNumber : Sp := fun vs H Q _ => ∃ (st c : Addr), vs = [.ref st] ∧ StAt H st c ∧ ∀ H' n, Go st c H H' → InR n → Q (.int n) H'
theorem ok_law_number (T : GTxt K mg a) : FnOk P w K mg base CX0 3 a.law_number.1 a.law_number.2 ["state"] spNumber := by
  refine T.law_number.F.ok sc_law_number (fun vs H Q E h => ?_) (fun cdv A outer s H vs Q E hr h => ?_)
  · obtain ⟨st, c, rfl, _⟩ := h
    rfl
  obtain ⟨st, c, rfl, hSt, q⟩ := h
  have G_law_draw := ok_law_draw (P := P) (w := w) (base := base) T
  have G_law_pick := ok_law_pick (P := P) (w := w) (base := base) T
  have nd := sc_law_number.nd
  refine ⟨_, (pss_cons (ps_set (i := 1) nd rfl (Or.inl rfl) (pe_lst (pa_cons pe_int (pa_cons (pe_un un_neg pe_int) (pa_cons pe_int (pa_cons (pe_un un_neg pe_int) (pa_cons pe_int pa_nil)))))))
  (pss_cons (ps_if (pt_cmpR op_eq (pe_call G_law_draw (hr.mono (by decide)) rfl T.law_draw.g T.law_draw.F.kp T.law_draw.b .nil pass0 (pa_cons (pv 0) (pa_cons pe_int pa_nil))) pe_int (nomark _)) (pss_one (ps_ret (pe_call G_law_pick (hr.mono (by decide)) rfl T.law_pick.g T.law_pick.F.kp T.law_pick.b .nil pass0 (pa_cons (pv 0) (pa_cons (pv 1) pa_nil))))) pss_nil)
  (pss_one (ps_ret (pe_op op_sub (pe_call G_law_draw (hr.mono (by decide)) rfl T.law_draw.g T.law_draw.F.kp T.law_draw.b .nil pass0 (pa_cons (pv 0) (pa_cons pe_int pa_nil))) pe_int))))), ?_⟩
  refine ⟨_, rfl, _, rfl, (by show 5 ≤ sizeLine; decide), fun p hp => ?_⟩
  have hSt1 := hSt.keep (same_new hp (.lst [.int 0, .int (-1), .int 2147483647, .int (-2147483648), .int 65536]))
  have g0 := Go.same hSt (same_new hp (.lst [.int 0, .int (-1), .int 2147483647, .int (-2147483648), .int 65536]))
  obtain ⟨_, _, a1, a2⟩ := id hSt
  have n1 : p ≠ st := (ne_of_none a1 hp).symm
  have n2 : p ≠ c := (ne_of_none a2 hp).symm
  refine ⟨_, rfl, st, c, _, rfl, hSt1, by decide, by decide, fun H2 n g2 h0 h1 => ?_⟩
  refine ⟨rfl, _, rfl, ?_⟩
  refine ite2 (fun _ => ?_) (fun _ => ?_)
  · refine ⟨_, rfl, _, rfl, st, c, p, _, rfl, g2.2, g2.1 _ _ n1 n2 upd_same, n1, n2, by decide, by decide, fun H3 x g3 hx => ?_⟩
    have g := (g0.trans g2).trans g3
    simp only [List.mem_cons, List.not_mem_nil, or_false] at hx
    rcases hx with rfl | rfl | rfl | rfl | rfl <;> exact q _ _ g (by unfold InR; omega)
  · refine ⟨_, rfl, st, c, _, rfl, g2.2, by decide, by decide, fun H3 x g3 h0 h1 => ?_⟩
    exact ⟨_, _, rfl, rfl, q _ _ ((g0.trans g2).trans g3) (by unfold InR; omega)⟩
end
theorem Go.kt {st c : Addr} {H H' : Hp} (h : StAt H st c) (g : Go st c H H') : Kt H H' := fun b xs e => by
  obtain ⟨ns, z, h1, h2⟩ := h
  refine g.1 b _ (fun n => ?_) (fun n => ?_) e
  · rw [n, h1] at e; cases e
  · rw [n, h2] at e; cases e
theorem Go.new {st c p : Addr} {H : Hp} {o : HO} (h : StAt H st c) (e : H p = none) : Go st c H (upd H p o) := Go.same h (same_new e o)
theorem Kt.new {H : Hp} {p : Addr} {o : HO} (e : H p = none) : Kt H (upd H p o) := Kt.of (same_new e o)
theorem Go.refl {st c : Addr} {H : Hp} (h : StAt H st c) : Go st c H H := ⟨fun _ _ _ _ e => e, h⟩
section
variable {P : Program} {w : World} {K : PySem.W.Frag} {mg : Str → Option Value} {base : Heap} {a : GAd}
theorem down {CX : CXT} {k d : Nat} {f : Addr} {fd : FuncData} {ps : List Str} {sp : Nat → Sp} (h : ∀ e, d = e + 1 → FnOk P w K mg base CX k f fd ps (sp e)) : FnOk P w K mg base CX k f fd ps (fun vs H Q E => ∃ e, d = e + 1 ∧ sp e vs H Q E) :=
  ⟨fun vs H Q E ⟨e, he, q⟩ => (h e he).len vs H Q E q, fun A outer s H args us vs Q E hr h0 hb hv ⟨e, he, q⟩ => (h e he).run A outer s H args us vs Q E hr h0 hb hv q⟩
/-- no promise -/
theorem nope {CX : CXT} {k : Nat} {f : Addr} {fd : FuncData} {ps : List Str} : FnOk P w K mg base CX k f fd ps (fun _ _ _ _ => False) := ⟨fun _ _ _ _ q => q.elim, fun _ _ _ _ _ _ _ _ _ _ _ _ _ q => q.elim⟩
def spKind (d : Nat) : Sp := fun vs H Q _ => ∃ (st c : Addr), vs = [.ref st, .int d] ∧ StAt H st c ∧ ∀ H' k v, Go st c H H' → KdAt H' k v → k.dep ≤ d + 1 → Q v H'
theorem ok_law_kind (T : GTxt K mg a) (d : Nat) : FnOk P w K mg base CX0 (d + 2) a.law_kind.1 a.law_kind.2 ["state", "deep"] (spKind d) := by
  induction d using Nat.strongRecOn with
  | _ d ih =>
  refine T.law_kind.F.ok sc_law_kind (fun vs H Q E h => ?_) (fun cdv A outer s H vs Q E hr h => ?_)
  · obtain ⟨st, c, rfl, _⟩ := h
    rfl
  obtain ⟨st, c, rfl, hS, q⟩ := h
  have nd := sc_law_kind.nd
  have G_law_draw := ok_law_draw (P := P) (w := w) (base := base) T
  have G_law_kind : FnOk P w K mg base CX0 (d + 1) a.law_kind.1 a.law_kind.2 ["state", "deep"] (fun vs H Q E => ∃ e, d = e + 1 ∧ spKind e vs H Q E) := down (fun e he => (ih e (by omega)).mono (by omega))
  refine ⟨_, (pss_cons (ps_set (i := 2) nd rfl (Or.inl rfl) (pe_call G_law_draw (hr.mono (by omega)) rfl T.law_draw.g T.law_draw.F.kp T.law_draw.b .nil pass0 (pa_cons (pv 0) (pa_cons pe_int pa_nil))))
  (pss_cons (ps_if (PW.pt (pw_or (pt_cmpR op_eq (pv 1) pe_int (nomark _)) (pw_or1 (pt_cmpR op_eq (pv 2) pe_int (nomark _))))) (pss_one (ps_ret (pe_tup (pa_cons pe_str pa_nil)))) pss_nil)
  (pss_cons (ps_if (pt_cmpR op_eq (pv 2) pe_int (nomark _)) (pss_one (ps_ret (pe_tup (pa_cons pe_str (pa_cons (pe_call G_law_kind (hr.mono (by omega)) rfl T.law_kind.g T.law_kind.F.kp T.law_kind.b .nil pass0 (pa_cons (pv 0) (pa_cons (pe_op op_sub (pv 1) pe_int) pa_nil))) (pa_cons (pe_call G_law_kind (hr.mono (by omega)) rfl T.law_kind.g T.law_kind.F.kp T.law_kind.b .nil pass0 (pa_cons (pv 0) (pa_cons (pe_op op_sub (pv 1) pe_int) pa_nil))) pa_nil)))))) pss_nil)
  (pss_one (ps_ret (pe_tup (pa_cons pe_str (pa_cons (pe_call G_law_kind (hr.mono (by omega)) rfl T.law_kind.g T.law_kind.F.kp T.law_kind.b .nil pass0 (pa_cons (pv 0) (pa_cons (pe_op op_sub (pv 1) pe_int) pa_nil))) pa_nil)))))))), ?_⟩
  refine ⟨_, rfl, st, c, _, rfl, hS, by decide, by decide, fun H1 n g1 n0 n1 => ?_⟩
  have leaf : ∀ (H1 : Hp), Go st c H H1 → ∀ p, H1 p = none → Q (.ref p) (upd H1 p (.tup [.str "num"])) := fun H1 g1 p hp => q _ .num _ (g1.trans (Go.new g1.2 hp)) ⟨p, rfl, upd_same⟩ (by show 1 ≤ _; omega)
  refine ⟨_, rfl, rfl, _, rfl, ?_⟩
  refine ite2 (fun c1 => ?_) (fun c1 => ?_)
  · exact ⟨(by show 1 ≤ sizeLine; decide), leaf _ g1⟩
  obtain ⟨e, rfl⟩ : ∃ e, d = e + 1 := ⟨d - 1, by
    have : ¬ ((d : Int) = 0) := fun z => c1 (by rw [z]; rfl)
    omega⟩
  have esub : ((e + 1 : Nat) : Int) - 1 = (e : Int) := by omega
  refine ⟨_, rfl, rfl, _, rfl, ?_⟩
  refine ite2 (fun c2 => ?_) (fun c2 => ?_)
  · exact ⟨(by show 1 ≤ sizeLine; decide), leaf _ g1⟩
  refine ⟨_, rfl, rfl, _, rfl, ?_⟩
  refine ite2 (fun c3 => ?_) (fun c3 => ?_)
  · refine ⟨_, rfl, _, rfl, _, _, rfl, rfl, e, rfl, st, c, congrArg (fun z : Int => [V.ref st, V.int z]) esub, g1.2, fun H2 k1 v1 g2 hk1 dk1 => ?_⟩
    refine ⟨_, rfl, _, rfl, _, _, rfl, rfl, e, rfl, st, c, congrArg (fun z : Int => [V.ref st, V.int z]) esub, g2.2, fun H3 k2 v2 g3 hk2 dk2 => ?_⟩
    refine ⟨(by show 3 ≤ sizeLine; decide), fun p hp => ?_⟩
    have gp := Go.new (o := .tup [.str "pair", v1, v2]) g3.2 hp
    exact q _ (.pair k1 k2) _ (((g1.trans g2).trans g3).trans gp) ⟨p, v1, v2, rfl, upd_same, (hk1.kt (g3.kt g2.2)).kt (gp.kt g3.2), hk2.kt (gp.kt g3.2)⟩ (by simp only [Kd.dep]; omega)
  · refine ⟨_, rfl, _, rfl, _, _, rfl, rfl, e, rfl, st, c, congrArg (fun z : Int => [V.ref st, V.int z]) esub, g1.2, fun H2 k1 v1 g2 hk1 dk1 => ?_⟩
    refine ⟨(by show 2 ≤ sizeLine; decide), fun p hp => ?_⟩
    have gp := Go.new (o := .tup [.str "seq", v1]) g2.2 hp
    exact q _ (.seq k1) _ ((g1.trans g2).trans gp) ⟨p, v1, rfl, upd_same, hk1.kt (gp.kt g2.2)⟩ (by simp only [Kd.dep]; omega)
end

theorem ref_ne {H : Hp} {p q : Addr} {o : HO} (h : H p = none) (e : H q = some o) : p ≠ q := fun z => by rw [z, e] at h; cases h
theorem ref_ne2 {H : Hp} {p q : Addr} {o : HO} (e : H p = some o) (h : H q = none) : p ≠ q := fun z => by rw [z, h] at e; cases e
theorem free_of {H : Hp} {p l : Addr} {o : HO} (hp : H p = none) (hl : (upd H p o) l = none) : H l = none := by
  by_cases e : l = p
  · rw [e]; exact hp
  · rw [upd_ne e] at hl; exact hl
theorem free_back {H H' : Hp} {l : Addr} (s : Same H H') (hl : H' l = none) : H l = none := by
  cases e : H l with
  | none => rfl
  | some o => rw [s _ _ e] at hl; cases hl
theorem op_neDK {X : Cx} {K : PySem.W.Frag} (hK : X.K = K) (hu : X.A.units + 64 < cLine) : OpR X (compareOp .NotEq) (rNeD K) := hK ▸ op_neD hu
theorem call_lenK {X : Cx} {K : PySem.W.Frag} (hK : X.K = K) : CallR X (.builtin "len") (fun xs H Q => ∃ p ys, xs = [.ref p] ∧ (SqL K H p ys ∨ SqT K H p ys) ∧ Q (.int (ys.length : Nat)) H) := hK ▸ call_len_seq
theorem ix_tupK {X : Cx} {K : PySem.W.Frag} (hK : X.K = K) : IxR X (rIxT K) := hK ▸ ix_tup
end K5

namespace K5
open PySem PySem.Spec PyProof.Rows L2 KV
theorem dep_pos (k : Kd) : 1 ≤ k.dep := by cases k <;> simp [Kd.dep]
section
variable {P : Program} {w : World} {K : PySem.W.Frag} {mg : Str → Option Value} {base : Heap} {a : GAd}
/-! ### values that are drawn -/
theorem nodep {CX : CXT} {k : Nat} {f : Addr} {fd : FuncData} {ps : List Str} {sp : Sp} (h : ∀ vs H Q E, ¬ sp vs H Q E) : FnOk P w K mg base CX k f fd ps sp := ⟨fun vs H Q E q => absurd q (h vs H Q E), fun A outer s H args us vs Q E hr he hb hv q => absurd q (h vs H Q E)⟩
/-- what wasn't there before the draws wasn't there ahead of them -/
theorem Go.back {st c : Addr} {H H' : Hp} (g : Go st c H H') {b : Addr} (h : H' b = none) : H b = none := by
  cases e : H b with
  | none => rfl
  | some o =>
    exfalso
    obtain ⟨_, _, z1, z2⟩ := g.2
    by_cases c1 : b = st
    · rw [c1, z1] at h; cases h
    by_cases c2 : b = c
    · rw [c2, z2] at h; cases h
    rw [g.1 b o c1 c2 e] at h; cases h
def spValue (k : Kd) : Sp := fun vs H Q _ => ∃ (st c : Addr) (kv : V), vs = [.ref st, kv] ∧ StAt H st c ∧ KdAt H k kv ∧
  ∀ (H' : Hp) (x : Val k) (v : V) (as : List Addr), Go st c H H' → VAt H' k x v as → Bd 3 k x → (∀ b ∈ as, H b = none) → Q v H'
theorem all3_range {α : Type} {R : α → V → List Addr → Prop} {n : Nat} {xs : List α} {us : List V} {ass : List (List Addr)} (h : All3 R xs us ass) (e : us.length = n) : xs.length = n := by rw [← h.len.1]; exact e
theorem ok_law_value (T : GTxt K mg a) (n : Nat) : FnOk P w K mg base CX0 (n + 4) a.law_value.1 a.law_value.2 ["state", "kind"] (fun vs H Q E => ∃ k : Kd, k.dep ≤ n ∧ spValue k vs H Q E) := by
  induction n with
  | zero =>
    refine nodep fun vs H Q E z => ?_
    obtain ⟨k, h, _⟩ := z
    have := dep_pos k
    omega
  | succ n ih =>
  refine T.law_value.F.ok sc_law_value (fun vs H Q E h => ?_) (fun cdv A outer s H vs Q E hr h => ?_)
  · obtain ⟨k, _, st, c, kv, rfl, _⟩ := h
    rfl
  obtain ⟨k, hk, st, c, kv, rfl, hS, hK, q⟩ := h
  have nd := sc_law_value.nd
  have G_law_draw := ok_law_draw (P := P) (w := w) (base := base) T
  have G_law_number := ok_law_number (P := P) (w := w) (base := base) T
  have G_law_value := ih
  refine ⟨_, (pss_cons (ps_if (pt_cmpR op_eq (pe_ix ix_tup (pv 1) pe_int (fun _ _ => rfl)) pe_str (nomark _)) (pss_one (ps_ret (pe_call G_law_number (hr.mono (by omega)) rfl T.law_number.g T.law_number.F.kp T.law_number.b .nil pass0 (pa_cons (pv 0) pa_nil)))) pss_nil)
  (pss_cons (ps_if (pt_cmpR op_eq (pe_ix ix_tup (pv 1) pe_int (fun _ _ => rfl)) pe_str (nomark _)) (pss_one (ps_ret (pe_tup (pa_cons (pe_call G_law_value (hr.mono (by omega)) rfl T.law_value.g T.law_value.F.kp T.law_value.b .nil pass0 (pa_cons (pv 0) (pa_cons (pe_ix (ix_tupK (K := K) rfl) (pv 1) pe_int (fun _ _ => rfl)) pa_nil))) (pa_cons (pe_call G_law_value (hr.mono (by omega)) rfl T.law_value.g T.law_value.F.kp T.law_value.b .nil pass0 (pa_cons (pv 0) (pa_cons (pe_ix (ix_tupK (K := K) rfl) (pv 1) pe_int (fun _ _ => rfl)) pa_nil))) pa_nil))))) pss_nil)
  (pss_one (ps_ret (pe_lc (own := [("k", 2)]) (g := gName 2) (tt := tYes) rfl nd (pi_range1 rfl T.range (pa_cons (pe_call G_law_draw (hr.mono (by omega)) rfl T.law_draw.g T.law_draw.F.kp T.law_draw.b .nil pass0 (pa_cons (pv 0) (pa_cons pe_int pa_nil))) pa_nil)) (blkOk_by (N := ["state", "kind", "k"]) (sc := defScope s_law_value) (by decide +kernel)) (fun _ _ _ _ _ => (pg_name (i := 2) nd rfl (Or.inl rfl))) (fun _ _ _ _ _ => pts_nil) (fun _ _ _ _ _ => (pe_call G_law_value (hr.mono (by omega)) rfl T.law_value.g T.law_value.F.kp T.law_value.b .nil pass0 (pa_cons (pv 0) (pa_cons (pe_ix (ix_tupK (K := K) rfl) (pv 1) pe_int (fun _ _ => rfl)) pa_nil))))))))), ?_⟩
  match k, hk, hK, q with
  | .num, hk, ⟨p, e, hp⟩, q =>
    subst e
    refine ⟨_, rfl, p, _, _, _, rfl, rfl, SqT.of hp, atI_nat (j := 0) rfl, rfl, _, rfl, ?_⟩
    refine ifT (by rfl) ?_
    exact ⟨_, rfl, st, c, rfl, hS, fun H2 x g2 i2 => q H2 x (.int x) [] g2 ⟨rfl, rfl⟩ i2 fun _ m => nomatch m⟩
  | .pair k1 k2, hk, ⟨p, u1, u2, e, hp, h1, h2⟩, q =>
    subst e
    refine ⟨_, rfl, p, _, _, _, rfl, rfl, SqT.of hp, atI_nat (j := 0) rfl, rfl, _, rfl, ?_⟩
    refine ifF (by rfl) ?_
    refine ⟨_, rfl, p, _, _, _, rfl, rfl, SqT.of hp, atI_nat (j := 0) rfl, rfl, _, rfl, ?_⟩
    refine ifT (by rfl) ?_
    have d1 : k1.dep ≤ n := by simp only [Kd.dep] at hk; omega
    have d2 : k2.dep ≤ n := by simp only [Kd.dep] at hk; omega
    refine ⟨_, rfl, _, rfl, p, _, _, _, rfl, rfl, SqT.of hp, atI_nat (j := 1) rfl, k1, d1, st, c, u1, rfl, hS, h1, fun H2 x1 v1 as1 g2 a1 b1 f1 => ?_⟩
    have t2 := g2.kt hS
    refine ⟨_, rfl, _, rfl, p, _, _, _, rfl, rfl, SqT.of (t2 _ _ hp), atI_nat (j := 2) rfl, k2, d2, st, c, u2, rfl, g2.2, h2.kt t2, fun H3 x2 v2 as2 g3 a2 b2 f2 => ?_⟩
    refine ⟨(by show 2 ≤ sizeLine; decide), fun r hr' => ?_⟩
    have gr := Go.new (o := .tup [v1, v2]) g3.2 hr'
    have a1' : VAt H3 k1 x1 v1 as1 := a1.keep (g3.kt g2.2) fun b m o e => by
      have nb := f1 b m
      exact g3.1 b o (ref_ne nb hS.choose_spec.choose_spec.1) (ref_ne nb hS.choose_spec.choose_spec.2) e
    refine q _ (x1, x2) _ (as1 ++ as2) ((g2.trans g3).trans gr) ⟨r, v1, v2, as1, as2, rfl, upd_same, a1'.same (same_new hr' _), a2.same (same_new hr' _), rfl⟩ ⟨b1, b2⟩ fun b m => ?_
    rcases List.mem_append.mp m with m | m
    · exact f1 b m
    · exact g2.back (f2 b m)
  | .seq k1, hk, ⟨p, u1, e, hp, h1⟩, q =>
    subst e
    refine ⟨_, rfl, p, _, _, _, rfl, rfl, SqT.of hp, atI_nat (j := 0) rfl, rfl, _, rfl, ?_⟩
    refine ifF (by rfl) ?_
    refine ⟨_, rfl, p, _, _, _, rfl, rfl, SqT.of hp, atI_nat (j := 0) rfl, rfl, _, rfl, ?_⟩
    refine ifF (by rfl) ?_
    have d1 : k1.dep ≤ n := by simp only [Kd.dep] at hk; omega
    refine ⟨_, rfl, st, c, _, rfl, hS, by decide, by decide, fun H2 m g2 m0 m1 => ?_⟩
    have t2 := g2.kt hS
    refine ⟨_, rfl, by omega, by omega, fun D hD => lc_range (lo := 0) (n := m.toNat) (fun i H3 => ∃ (xs : List (Val k1)) (us : List V) (ass : List (List Addr)), H3 D = some (.lst us) ∧ us.length = i ∧ All3 (VAt H3 k1) xs us ass ∧ (∀ x ∈ xs, Bd 3 k1 x) ∧ (∀ as ∈ ass, ∀ b ∈ as, H2 b = none ∧ b ≠ D) ∧ Go st c H2 H3) ⟨[], [], [], upd_same, rfl, .nil, fun _ z => (nomatch z), fun _ z => (nomatch z), Go.new g2.2 hD⟩ ?_ ?_⟩
    · rintro i H3 hi ⟨xs, us, ass, hD3, hl, hA, hB, hf, g3⟩
      have t3 := g3.kt g2.2
      refine ⟨rfl, _, rfl, _, rfl, p, _, _, _, rfl, rfl, SqT.of (t3 _ _ (t2 _ _ hp)), atI_nat (j := 1) rfl, k1, d1, st, c, u1, rfl, g3.2, (h1.kt t2).kt t3, fun H4 x v as g4 av bv fv => ?_⟩
      have nD : D ≠ st ∧ D ≠ c := by
        obtain ⟨_, _, z1, z2⟩ := g2.2
        exact ⟨ref_ne hD z1, ref_ne hD z2⟩
      have hD4 : H4 D = some (.lst us) := g4.1 D _ nD.1 nD.2 hD3
      have hm : m.toNat ≤ 3 := by omega
      have new2 : ∀ b ∈ as, H2 b = none ∧ b ≠ D := fun b mb => ⟨g3.back (fv b mb), ref_ne (fv b mb) hD3⟩
      have old4 : ∀ as' ∈ ass, ∀ b ∈ as', ∀ o, H3 b = some o → H4 b = some o := fun as' m1 b m2 o e => by
        have f := (hf as' m1 b m2).1
        obtain ⟨_, _, z1, z2⟩ := g2.2
        exact g4.1 b o (ref_ne f z1) (ref_ne f z2) e
      have hA4 : All3 (VAt H4 k1) xs us ass := hA.imp fun x u as' m r => r.keep (g4.kt g3.2) fun b mb o e => old4 as' m b mb o e
      have hA5 : All3 (VAt H4 k1) (xs ++ [x]) (us ++ [v]) (ass ++ [as]) := hA4.app (.one av)
      have all5 : ∀ as' ∈ ass ++ [as], ∀ b ∈ as', H2 b = none ∧ b ≠ D := fun as' m b mb => by
        rcases List.mem_append.mp m with m | m
        · exact hf as' m b mb
        · rw [List.mem_singleton.mp m] at mb; exact new2 b mb
      refine ⟨us, hD4, small1000 (by omega), xs ++ [x], us ++ [v], ass ++ [as], upd_same, by rw [List.length_append, hl]; rfl, hA5.imp fun x u as' m r => r.keep (fun b ys e => ?_) (fun b mb o e => ?_), fun y my => ?_, all5, ?_⟩
      · rw [upd_ne (fun z => by rw [z, hD4] at e; cases e)]; exact e
      · rw [upd_ne (all5 as' m b mb).2]; exact e
      · rcases List.mem_append.mp my with my | my
        · exact hB y my
        · rw [List.mem_singleton.mp my]; exact bv
      · refine ⟨fun b o n1 n2 e => ?_, ?_⟩
        · rw [upd_ne (fun z => by rw [z, hD] at e; cases e)]
          exact g4.1 b o n1 n2 (g3.1 b o n1 n2 e)
        · obtain ⟨ns, z, z1, z2⟩ := g4.2
          exact ⟨ns, z, by rw [upd_ne nD.1.symm]; exact z1, by rw [upd_ne nD.2.symm]; exact z2⟩
    · rintro H3 ⟨xs, us, ass, hD3, hl, hA, hB, hf, g3⟩
      have lx : xs.length = m.toNat := all3_range hA hl
      refine q H3 xs _ (D :: ass.flatten) (g2.trans g3) ⟨D, us, ass, rfl, hD3, hA, rfl⟩ ⟨(by show xs.length ≤ 3; omega), hB⟩ fun b mb => ?_
      rcases List.mem_cons.mp mb with mb | mb
      · rw [mb]; exact g2.back hD
      · obtain ⟨as, m1, m2⟩ := List.mem_flatten.mp mb
        exact g2.back (hf as m1 b m2).1
end
end K5

namespace K5
open PySem PySem.Spec PyProof.Rows L2 KV
/-! ### the vectors of values -/
def vecs : (k : Kd) → List (Val k) → List (List Int)
  | .num, vs => [vs.map int]
  | .pair a b, vs => vecs a (vs.map fun xy => xy.1) ++ vecs b (vs.map fun xy => xy.2)
  | .seq a, vs => (vs.map fun xs => (((lst xs).length : Nat) : Int)) :: vecs a (vs.map lst).flatten
def cols : Kd → Nat
  | .num => 1
  | .pair a b => cols a + cols b
  | .seq a => cols a + 1
theorem vecs_length : ∀ (k : Kd) (vs : List (Val k)), (vecs k vs).length = cols k
  | .num, _ => rfl
  | .pair a b, vs => by simp only [vecs, cols, List.length_append, vecs_length a, vecs_length b]
  | .seq a, vs => by simp only [vecs, cols, List.length_cons, vecs_length a]
/-- no more than M values in all lanes together -/
def fits (M : Nat) : (k : Kd) → List (Val k) → Prop
  | .num, vs => vs.length ≤ M
  | .pair a b, vs => vs.length ≤ M ∧ fits M a (vs.map fun xy => xy.1) ∧ fits M b (vs.map fun xy => xy.2)
  | .seq a, vs => vs.length ≤ M ∧ fits M a (vs.map lst).flatten
theorem fits.len {M : Nat} : ∀ {k : Kd} {vs : List (Val k)}, fits M k vs → vs.length ≤ M
  | .num, _, h => h
  | .pair _ _, _, h => h.1
  | .seq _, _, h => h.1
theorem flat_len {α : Type} {n : Nat} (xss : List (List α)) (h : ∀ xs ∈ xss, xs.length ≤ n) : xss.flatten.length ≤ xss.length * n := by
  induction xss with
  | nil => exact Nat.zero_le _
  | cons x r ih =>
    rw [List.flatten_cons, List.length_append, List.length_cons, Nat.succ_mul]
    have := h x (List.mem_cons_self ..)
    have := ih fun y m => h y (List.mem_cons_of_mem _ m)
    omega
theorem fits_of {L M : Nat} (hL : 1 ≤ L) : ∀ (k : Kd) (vs : List (Val k)), (∀ x ∈ vs, Bd L k x) → vs.length * L ^ (k.dep - 1) ≤ M → fits M k vs
  | .num, vs, _, h => by
    show vs.length ≤ M
    have e : vs.length * L ^ (Kd.num.dep - 1) = vs.length := by show vs.length * 1 = _; rw [Nat.mul_one]
    omega
  | .pair a b, vs, hb, h => by
    have p1 : L ^ (a.dep - 1) ≤ L ^ ((Kd.pair a b).dep - 1) := Nat.pow_le_pow_right hL (by simp only [Kd.dep]; omega)
    have p2 : L ^ (b.dep - 1) ≤ L ^ ((Kd.pair a b).dep - 1) := Nat.pow_le_pow_right hL (by simp only [Kd.dep]; omega)
    have q1 := Nat.mul_le_mul_left vs.length p1
    have q2 := Nat.mul_le_mul_left vs.length p2
    have q3 : vs.length * 1 ≤ vs.length * L ^ ((Kd.pair a b).dep - 1) := Nat.mul_le_mul_left _ (Nat.pow_pos (by omega))
    refine ⟨by omega, fits_of hL a _ (fun x m => ?_) (by rw [List.length_map]; omega), fits_of hL b _ (fun x m => ?_) (by rw [List.length_map]; omega)⟩
    · obtain ⟨y, my, rfl⟩ := List.mem_map.mp m
      exact (hb y my).1
    · obtain ⟨y, my, rfl⟩ := List.mem_map.mp m
      exact (hb y my).2
  | .seq a, vs, hb, h => by
    have q3 : vs.length * 1 ≤ vs.length * L ^ ((Kd.seq a).dep - 1) := Nat.mul_le_mul_left _ (Nat.pow_pos (by omega))
    have fl : (vs.map lst).flatten.length ≤ vs.length * L := by
      have := flat_len (n := L) (vs.map lst) fun xs m => by
        obtain ⟨y, my, rfl⟩ := List.mem_map.mp m
        exact (hb y my).1
      rw [List.length_map] at this
      exact this
    have e : L ^ ((Kd.seq a).dep - 1) = L * L ^ (a.dep - 1) := by
      have : (Kd.seq a).dep - 1 = (a.dep - 1) + 1 := by have := dep_pos a; simp only [Kd.dep]; omega
      rw [this, Nat.pow_succ, Nat.mul_comm]
    have q4 := Nat.mul_le_mul_right (L ^ (a.dep - 1)) fl
    have hM : vs.length ≤ M := by omega
    rw [e, ← Nat.mul_assoc] at h
    refine ⟨hM, fits_of hL a _ (fun x m => ?_) (by omega)⟩
    obtain ⟨xs, m1, m2⟩ := List.mem_flatten.mp m
    obtain ⟨y, my, rfl⟩ := List.mem_map.mp m1
    exact (hb y my).2 x m2
/-- a list of values stands at p -/
structure LnAt (H : Hp) (k : Kd) (vs : List (Val k)) (p : Addr) (us : List V) (ass : List (List Addr)) : Prop where
  at_ : H p = some (.lst us)
  all : All3 (VAt H k) vs us ass
theorem LnAt.len {H : Hp} {k : Kd} {vs : List (Val k)} {p : Addr} {us : List V} {ass : List (List Addr)} (h : LnAt H k vs p us ass) : us.length = vs.length := h.all.len.1
theorem LnAt.same {H H' : Hp} (s : Same H H') {k : Kd} {vs : List (Val k)} {p : Addr} {us : List V} {ass : List (List Addr)} (h : LnAt H k vs p us ass) : LnAt H' k vs p us ass := ⟨s _ _ h.at_, h.all.imp fun _ _ _ _ r => r.same s⟩
theorem LnAt.vat {H : Hp} {k : Kd} {vs : List (Val k)} {p : Addr} {us : List V} {ass : List (List Addr)} (h : LnAt H k vs p us ass) : VAt H (.seq k) vs (.ref p) (p :: ass.flatten) := ⟨p, us, ass, rfl, h.at_, h.all, rfl⟩
/-- the same of numbers -/
theorem all3_ints (H : Hp) : ∀ ns : List Int, All3 (VAt H .num) (ns : List (Val .num)) (ns.map V.int) (ns.map fun _ => [])
  | [] => .nil
  | n :: ns => .cons ⟨rfl, rfl⟩ (all3_ints H ns)
theorem ints_all3 {H : Hp} {vs : List (Val .num)} {us : List V} {ass : List (List Addr)} (h : All3 (VAt H .num) vs us ass) : us = (vs.map int).map V.int ∧ ass.flatten = [] := by
  induction h with
  | nil => exact ⟨rfl, rfl⟩
  | cons a _ ih => exact ⟨by rw [a.1, ih.1]; rfl, by rw [a.2, List.flatten_cons, ih.2]; rfl⟩
theorem ints_flat (ns : List Int) : (ns.map fun _ => ([] : List Addr)).flatten = [] := by
  induction ns with
  | nil => rfl
  | cons n r ih => rw [List.map_cons, List.flatten_cons, ih]; rfl
theorem vat_ints {H : Hp} {ns : List Int} {p : Addr} (h : H p = some (.lst (ns.map V.int))) : VAt H (.seq .num) ns (.ref p) [p] :=
  ⟨p, _, _, rfl, h, all3_ints H ns, by rw [ints_flat]⟩
/-- the values of the pairs, one part -/
theorem pairs_get {H : Hp} {k l : Kd} {vs : List (Val (.pair k l))} {us : List V} {ass : List (List Addr)} (h : All3 (VAt H (.pair k l)) vs us ass) {i : Nat} {u : V} (e : us[i]? = some u) :
    ∃ xy p u1 u2 as1 as2, vs[i]? = some xy ∧ u = .ref p ∧ H p = some (.tup [u1, u2]) ∧ VAt H k xy.1 u1 as1 ∧ VAt H l xy.2 u2 as2 := by
  obtain ⟨xy, as, e1, e2, p, u1, u2, as1, as2, e3, hp, a1, a2, _⟩ := h.get e
  exact ⟨xy, p, u1, u2, as1, as2, e1, e3, hp, a1, a2⟩
theorem take_map_snoc {α β : Type} (f : α → β) {xs : List α} {i : Nat} {x : α} (h : xs[i]? = some x) : (xs.take (i + 1)).map f = (xs.take i).map f ++ [f x] := by
  obtain ⟨hi, e⟩ := List.getElem?_eq_some_iff.mp h
  rw [List.take_add_one, h, List.map_append]
  rfl
theorem take_snoc {α : Type} {xs : List α} {i : Nat} {x : α} (h : xs[i]? = some x) : xs.take (i + 1) = xs.take i ++ [x] := by
  rw [List.take_add_one, h]
  rfl
section
variable {P : Program} {w : World} {K : PySem.W.Frag} {mg : Str → Option Value} {base : Heap} {a : GAd}
def spLanes (k : Kd) : Sp := fun vs H Q _ => ∃ (kv : V) (p : Addr) (xs : List (Val k)) (us : List V) (ass : List (List Addr)), vs = [kv, .ref p] ∧ KdAt H k kv ∧ LnAt H k xs p us ass ∧ fits 1000 k xs ∧
  ∀ (H' : Hp) (r : Addr) (us' : List V) (ass' : List (List Addr)), Same H H' → LnAt H' (.seq .num) (vecs k xs) r us' ass' → us'.length ≤ cols k → Q (.ref r) H'
theorem ok_law_lanes (T : GTxt K mg a) (n : Nat) (hn : n ≤ 10) : FnOk P w K mg base CX0 (n + 4) a.law_lanes.1 a.law_lanes.2 ["kind", "values"] (fun vs H Q E => ∃ k : Kd, k.dep ≤ n ∧ cols k ≤ 2000 ∧ spLanes k vs H Q E) := by
  induction n with
  | zero =>
    refine nodep fun vs H Q E z => ?_
    obtain ⟨k, h, _⟩ := z
    have := dep_pos k
    omega
  | succ n ih =>
  refine T.law_lanes.F.ok sc_law_lanes (fun vs H Q E h => ?_) (fun cdv A outer s H vs Q E hr h => ?_)
  · obtain ⟨k, _, _, kv, p, xs, us, ass, rfl, _⟩ := h
    rfl
  obtain ⟨k, hk, hc, kv, p, xs, us, ass, rfl, hK, hL, hf, q⟩ := h
  have nd := sc_law_lanes.nd
  have G_law_lanes := ih (by omega)
  refine ⟨_, (pss_cons (ps_if (pt_cmpR op_eq (pe_ix ix_tup (pv 0) pe_int (fun _ _ => rfl)) pe_str (nomark _)) (pss_one (ps_ret (pe_lst (pa_cons (pe_lc (own := [("value", 5)]) (g := gName 5) (tt := tYes) rfl nd (pi_list (pv 1)) (blkOk_by (N := ["kind", "values", "first", "inner", "items", "value", "pair"]) (sc := defScope s_law_lanes) (by decide +kernel)) (fun _ _ _ _ _ => (pg_name (i := 5) nd rfl (Or.inl rfl))) (fun _ _ _ _ _ => pts_nil) (fun _ _ _ _ _ => (pv 5))) pa_nil)))) pss_nil)
  (pss_cons (ps_if (pt_cmpR op_eq (pe_ix ix_tup (pv 0) pe_int (fun _ _ => rfl)) pe_str (nomark _)) (pss_cons (ps_set (i := 2) nd rfl (Or.inl rfl) (pe_call G_law_lanes (hr.mono (by omega)) rfl T.law_lanes.g T.law_lanes.F.kp T.law_lanes.b .nil pass0 (pa_cons (pe_ix (ix_tupK (K := K) rfl) (pv 0) pe_int (fun _ _ => rfl)) (pa_cons (pe_lc (own := [("pair", 6)]) (g := gName 6) (tt := tYes) rfl nd (pi_list (pv 1)) (blkOk_by (N := ["kind", "values", "first", "inner", "items", "value", "pair"]) (sc := defScope s_law_lanes) (by decide +kernel)) (fun _ _ _ _ _ => (pg_name (i := 6) nd rfl (Or.inl rfl))) (fun _ _ _ _ _ => pts_nil) (fun _ _ _ _ _ => (pe_ix (ix_tupK (K := K) rfl) (pv 6) pe_int (fun _ _ => rfl)))) pa_nil))))
  (pss_one (ps_ret (pe_op op_cat (pv 2) (pe_call G_law_lanes (hr.mono (by omega)) rfl T.law_lanes.g T.law_lanes.F.kp T.law_lanes.b .nil pass0 (pa_cons (pe_ix (ix_tupK (K := K) rfl) (pv 0) pe_int (fun _ _ => rfl)) (pa_cons (pe_lc (own := [("pair", 6)]) (g := gName 6) (tt := tYes) rfl nd (pi_list (pv 1)) (blkOk_by (N := ["kind", "values", "first", "inner", "items", "value", "pair"]) (sc := defScope s_law_lanes) (by decide +kernel)) (fun _ _ _ _ _ => (pg_name (i := 6) nd rfl (Or.inl rfl))) (fun _ _ _ _ _ => pts_nil) (fun _ _ _ _ _ => (pe_ix (ix_tupK (K := K) rfl) (pv 6) pe_int (fun _ _ => rfl)))) pa_nil))))))) pss_nil)
  (pss_cons (ps_set (i := 3) nd rfl (Or.inl rfl) (pe_lst pa_nil))
  (pss_cons (ps_for PassesOwn.never rfl (pi_list (pv 1)) (pg_name (i := 4) nd rfl (Or.inl rfl)) (pss_one (ps_set (i := 3) nd rfl (Or.inl rfl) (pe_op op_cat (pv 3) (pv 4)))))
  (pss_one (ps_ret (pe_op op_cat (pe_lst (pa_cons (pe_lc (own := [("items", 4)]) (g := gName 4) (tt := tYes) rfl nd (pi_list (pv 1)) (blkOk_by (N := ["kind", "values", "first", "inner", "items", "value", "pair"]) (sc := defScope s_law_lanes) (by decide +kernel)) (fun _ _ _ _ _ => (pg_name (i := 4) nd rfl (Or.inl rfl))) (fun _ _ _ _ _ => pts_nil) (fun _ _ _ _ _ => (pe_callB (call_lenK (K := K) rfl) (by rfl) T.len PySem.boot_len (pa_cons (pv 4) pa_nil)))) pa_nil)) (pe_call G_law_lanes (hr.mono (by omega)) rfl T.law_lanes.g T.law_lanes.F.kp T.law_lanes.b .nil pass0 (pa_cons (pe_ix (ix_tupK (K := K) rfl) (pv 0) pe_int (fun _ _ => rfl)) (pa_cons (pv 3) pa_nil)))))))))), ?_⟩
  have hlen := hL.len
  have hmax := hf.len
  match k, hk, hc, hK, xs, hL, hf, q, hlen, hmax with
  | .num, hk, hc, ⟨kp, e, hp⟩, xs, hL, hf, q, hlen, hmax =>
    subst e
    refine ⟨_, rfl, kp, _, _, _, rfl, rfl, SqT.of hp, atI_nat (j := 0) rfl, rfl, _, rfl, ?_⟩
    refine ifT (by rfl) ?_
    refine ⟨_, rfl, p, rfl, ⟨_, SqL.of hL.at_⟩, fun D hD => lc_list (K := K) (a := p) (xs := us) (fun i H1 => H1 = upd H D (.lst (us.take i))) (by rw [List.take_zero]) (fun i H1 _ h => by rw [h]; exact SqL.of (same_new hD _ _ _ hL.at_)) ?_ ?_⟩
    · rintro i y H1 hy rfl
      refine ⟨rfl, _, rfl, _, upd_same, ?_, ?_⟩
      · rw [List.length_take]; exact small1000 (by omega)
      · rw [upd_upd, take_snoc hy]
    · rintro H1 rfl
      rw [List.take_length]
      refine ⟨(by show 1 ≤ sizeLine; decide), fun r hr' => ?_⟩
      have e := (ints_all3 hL.all).1
      have s1 := (same_new hD (.lst us)).trans (same_new hr' (.lst [V.ref D]))
      have hD2 : upd (upd H D (.lst us)) r (.lst [V.ref D]) D = some (.lst ((xs.map int).map V.int)) := by
        rw [upd_ne (ne_of_none upd_same hr'), upd_same, e]
      refine q _ r [.ref D] [[D]] s1 ⟨upd_same, .cons (vat_ints hD2) .nil⟩ (Nat.le_refl _)
  | .pair k1 k2, hk, hc, ⟨kp, u1, u2, e, hp, h1, h2⟩, xs, hL, hf, q, hlen, hmax =>
    subst e
    have d1 : k1.dep ≤ n := by simp only [Kd.dep] at hk; omega
    have d2 : k2.dep ≤ n := by simp only [Kd.dep] at hk; omega
    have c1 : cols k1 ≤ 2000 := by simp only [cols] at hc; omega
    have c2 : cols k2 ≤ 2000 := by simp only [cols] at hc; omega
    refine ⟨_, rfl, kp, _, _, _, rfl, rfl, SqT.of hp, atI_nat (j := 0) rfl, rfl, _, rfl, ?_⟩
    refine ifF (by rfl) ?_
    refine ⟨_, rfl, kp, _, _, _, rfl, rfl, SqT.of hp, atI_nat (j := 0) rfl, rfl, _, rfl, ?_⟩
    refine ifT (by rfl) ?_
    refine ⟨_, rfl, kp, _, _, _, rfl, rfl, SqT.of hp, atI_nat (j := 1) rfl, ?_⟩
    refine ⟨_, rfl, p, rfl, ⟨_, SqL.of hL.at_⟩, fun D hD => lc_list (K := K) (a := p) (xs := us) (fun i H1 => ∃ (acc : List V) (bss : List (List Addr)), H1 = upd H D (.lst acc) ∧ acc.length = i ∧ All3 (VAt H k1) ((xs.take i).map fun xy => xy.1) acc bss) ⟨[], [], rfl, rfl, by rw [List.take_zero]; exact .nil⟩ (fun i H1 _ h => by obtain ⟨_, _, rfl, _⟩ := h; exact SqL.of (same_new hD _ _ _ hL.at_)) ?_ ?_⟩
    · rintro i y H1 hy ⟨acc, bss, rfl, hl, hA⟩
      have hi : i < us.length := (List.getElem?_eq_some_iff.mp hy).1
      obtain ⟨xy, tp, w1, w2, as1, as2, ex, rfl, ht, a1, a2⟩ := pairs_get hL.all hy
      refine ⟨rfl, _, rfl, tp, _, _, _, rfl, rfl, SqT.of (same_new hD _ _ _ ht), atI_nat (j := 0) rfl, _, upd_same, small1000 (by omega), acc ++ [w1], bss ++ [as1], by rw [upd_upd], by rw [List.length_append, hl]; rfl, ?_⟩
      rw [take_map_snoc _ ex]
      exact hA.app (.one a1)
    rintro H1 ⟨acc, bss, rfl, hl, hA⟩
    rw [hlen, List.take_length] at hA
    have sD := same_new hD (.lst acc)
    refine ⟨k1, d1, c1, u1, D, _, acc, bss, rfl, h1.kt (Kt.of sD), ⟨upd_same, hA.imp fun _ _ _ _ r => r.same sD⟩, hf.2.1, fun H2 r1 us1 ass1 s2 l1 b1 => ?_⟩
    have s02 := sD.trans s2
    have hL2 := hL.same s02
    refine ⟨_, rfl, _, rfl, kp, _, _, _, rfl, rfl, SqT.of (s02 _ _ hp), atI_nat (j := 2) rfl, ?_⟩
    refine ⟨_, rfl, p, rfl, ⟨_, SqL.of hL2.at_⟩, fun D2 hD2 => lc_list (K := K) (a := p) (xs := us) (fun i H1 => ∃ (acc : List V) (bss : List (List Addr)), H1 = upd H2 D2 (.lst acc) ∧ acc.length = i ∧ All3 (VAt H2 k2) ((xs.take i).map fun xy => xy.2) acc bss) ⟨[], [], rfl, rfl, by rw [List.take_zero]; exact .nil⟩ (fun i H1 _ h => by obtain ⟨_, _, rfl, _⟩ := h; exact SqL.of (same_new hD2 _ _ _ hL2.at_)) ?_ ?_⟩
    · rintro i y H1 hy ⟨acc, bss, rfl, hl, hA⟩
      have hi : i < us.length := (List.getElem?_eq_some_iff.mp hy).1
      obtain ⟨xy, tp, w1, w2, as1, as2, ex, rfl, ht, a1, a2⟩ := pairs_get hL2.all hy
      refine ⟨rfl, _, rfl, tp, _, _, _, rfl, rfl, SqT.of (same_new hD2 _ _ _ ht), atI_nat (j := 1) rfl, _, upd_same, small1000 (by omega), acc ++ [w2], bss ++ [as2], by rw [upd_upd], by rw [List.length_append, hl]; rfl, ?_⟩
      rw [take_map_snoc _ ex]
      exact hA.app (.one a2)
    rintro H1 ⟨acc2, bss2, rfl, hl2, hA2⟩
    rw [hlen, List.take_length] at hA2
    have sD2 := same_new hD2 (.lst acc2)
    refine ⟨k2, d2, c2, u2, D2, _, acc2, bss2, rfl, (h2.kt (Kt.of s02)).kt (Kt.of sD2), ⟨upd_same, hA2.imp fun _ _ _ _ r => r.same sD2⟩, hf.2.2, fun H3 r2 us2 ass2 s3 l2 b2 => ?_⟩
    have s23 := sD2.trans s3
    have l1' := l1.same s23
    refine ⟨r1, r2, us1, us2, rfl, rfl, l1'.at_, l2.at_, ?_, fun r hr' => ?_⟩
    · have : 4000 ≤ sizeLine := by decide
      omega
    have sr := same_new hr' (.lst (us1 ++ us2))
    refine q _ r (us1 ++ us2) (ass1 ++ ass2) ((s02.trans s23).trans sr) ⟨upd_same, (l1'.all.imp fun _ _ _ _ r => r.same sr).app (l2.all.imp fun _ _ _ _ r => r.same sr)⟩ ?_
    rw [List.length_append]
    exact Nat.add_le_add b1 b2
  | .seq k1, hk, hc, ⟨kp, u1, e, hp, h1⟩, xs, hL, hf, q, hlen, hmax =>
    subst e
    have d1 : k1.dep ≤ n := by simp only [Kd.dep] at hk; omega
    have c1 : cols k1 ≤ 2000 := by simp only [cols] at hc; omega
    refine ⟨_, rfl, kp, _, _, _, rfl, rfl, SqT.of hp, atI_nat (j := 0) rfl, rfl, _, rfl, ?_⟩
    refine ifF (by rfl) ?_
    refine ⟨_, rfl, kp, _, _, _, rfl, rfl, SqT.of hp, atI_nat (j := 0) rfl, rfl, _, rfl, ?_⟩
    refine ifF (by rfl) ?_
    refine ⟨(by show 0 ≤ sizeLine; decide), fun inn hinn => ?_⟩
    have s1 := same_new hinn (.lst [])
    have fl : ∀ i, i ≤ xs.length → ((xs.take i).map lst).flatten.length ≤ 1000 := fun i hi => by
      have e : xs.map lst = (xs.take i).map lst ++ (xs.drop i).map lst := by rw [← List.map_append, List.take_append_drop]
      have h2 := hf.2.len
      rw [e, List.flatten_append, List.length_append] at h2
      omega
    refine ⟨_, rfl, p, rfl, ⟨_, SqL.of (s1 _ _ hL.at_)⟩, for_list (K := K) (a := p) (xs := us) (fun i σ H1 => ∃ (r : Addr) (acc : List V) (bss : List (List Addr)) (v4 : Option V), σ = [some (.ref kp), some (.ref p), none, some (.ref r), v4, none, none] ∧ Same H H1 ∧ LnAt H1 k1 ((xs.take i).map lst).flatten r acc bss) ⟨inn, [], [], none, rfl, s1, by rw [List.take_zero]; exact ⟨upd_same, .nil⟩⟩ (fun i σ H1 _ h => by obtain ⟨_, _, _, _, _, s, _⟩ := h; exact SqL.of (s _ _ hL.at_)) ?_ ?_⟩
    · rintro i y σ H1 hy ⟨r, acc, bss, v4, rfl, s01, hA⟩
      have hi : i < us.length := (List.getElem?_eq_some_iff.mp hy).1
      obtain ⟨ys, as, ex, _, q1, ws, css, rfl, hq1, hB, _⟩ := hL.all.get hy
      have e := take_map_snoc lst ex
      have tot : ((xs.take (i + 1)).map lst).flatten.length ≤ 1000 := fl (i + 1) (by omega)
      rw [e, List.flatten_append, List.length_append] at tot
      have la := hA.len
      have lb := hB.len.1
      have tot2 : acc.length + ws.length ≤ 1000 := by
        have : ([lst ys] : List (List (Val k1))).flatten.length = (lst ys).length := by simp
        have lb' : ws.length = (lst ys).length := lb
        omega
      refine ⟨_, rfl, _, rfl, r, q1, acc, ws, rfl, rfl, hA.at_, s01 _ _ hq1, Nat.le_of_lt (small1000 tot2), fun p2 hp2 => ?_⟩
      have s2 := same_new hp2 (.lst (acc ++ ws))
      refine ⟨p2, acc ++ ws, bss ++ css, _, rfl, s01.trans s2, upd_same, ?_⟩
      rw [e, List.flatten_append]
      refine (hA.all.imp fun _ _ _ _ r => r.same s2).app ?_
      have : ([lst ys] : List (List (Val k1))).flatten = lst ys := by simp
      rw [this]
      exact hB.imp fun _ _ _ _ r => r.same (s01.trans s2)
    rintro σ H1 ⟨r, acc, bss, v4, rfl, s01, hA⟩
    rw [hlen, List.take_length] at hA
    have hL1 := hL.same s01
    refine ⟨_, rfl, p, rfl, ⟨_, SqL.of hL1.at_⟩, fun D hD => lc_list (K := K) (a := p) (xs := us) (fun i H2 => H2 = upd H1 D (.lst (((xs.take i).map fun ys => (((lst ys).length : Nat) : Int)).map V.int))) (by rw [List.take_zero]; rfl) (fun i H2 _ h => by rw [h]; exact SqL.of (same_new hD _ _ _ hL1.at_)) ?_ ?_⟩
    · rintro i y H2 hy rfl
      have hi : i < us.length := (List.getElem?_eq_some_iff.mp hy).1
      obtain ⟨ys, as, ex, _, q1, ws, css, rfl, hq1, hB, _⟩ := hL1.all.get hy
      refine ⟨rfl, _, rfl, q1, ws, rfl, .inl (SqL.of (same_new hD _ _ _ hq1)), _, upd_same, ?_, ?_⟩
      · rw [List.length_map, List.length_map, List.length_take]; exact small1000 (by omega)
      · have lb' : ws.length = (lst ys).length := hB.len.1
        rw [upd_upd, take_map_snoc _ ex, List.map_append, lb']
        rfl
    rintro H2 rfl
    rw [hlen, List.take_length]
    have sD := same_new hD (.lst ((xs.map fun ys => (((lst ys).length : Nat) : Int)).map V.int))
    refine ⟨(by show 1 ≤ sizeLine; decide), fun L hL0 => ?_⟩
    have sL := same_new hL0 (.lst [V.ref D])
    have s02 := (s01.trans sD).trans sL
    refine ⟨_, rfl, kp, _, _, _, rfl, rfl, SqT.of (s02 _ _ hp), atI_nat (j := 1) rfl, _, rfl, k1, d1, c1, u1, r, _, acc, bss, rfl, h1.kt (Kt.of s02), hA.same (sD.trans sL), hf.2, fun H3 r2 us2 ass2 s3 l2 b2 => ?_⟩
    have hL3 : H3 L = some (.lst [V.ref D]) := s3 _ _ upd_same
    have hD3 : H3 D = some (.lst ((xs.map fun ys => (((lst ys).length : Nat) : Int)).map V.int)) := s3 _ _ (sL _ _ upd_same)
    refine ⟨L, r2, [V.ref D], us2, rfl, rfl, hL3, l2.at_, ?_, fun r3 hr3 => ?_⟩
    · have : 4000 ≤ sizeLine := by decide
      rw [List.length_singleton]
      omega
    have s4 := same_new hr3 (.lst ([V.ref D] ++ us2))
    refine q _ r3 ([V.ref D] ++ us2) ([[D]] ++ ass2) ((s02.trans s3).trans s4) ⟨upd_same, (All3.one (vat_ints (s4 _ _ hD3))).app (l2.all.imp fun _ _ _ _ r => r.same s4)⟩ ?_
    rw [List.length_append, List.length_singleton]
    show 1 + us2.length ≤ cols k1 + 1
    omega
end
end K5

namespace K5
open PySem PySem.Spec PyProof.Rows L2 KV
/-! ### rows -/
def chunks {α : Type} : List Nat → List α → List (List α)
  | [], _ => []
  | n :: ns, xs => xs.take n :: chunks ns (xs.drop n)
def nsum : List Nat → Nat
  | [] => 0
  | n :: r => n + nsum r
theorem nsum_snoc (ns : List Nat) (n : Nat) : nsum (ns ++ [n]) = nsum ns + n := by
  induction ns with
  | nil => simp [nsum]
  | cons x r ih => simp only [List.cons_append, nsum, ih]; omega
theorem chunks_snoc {α : Type} (ns : List Nat) (n : Nat) : ∀ xs : List α, chunks (ns ++ [n]) xs = chunks ns xs ++ [(xs.drop (nsum ns)).take n] := by
  induction ns with
  | nil => intro xs; rfl
  | cons x r ih =>
    intro xs
    show xs.take x :: chunks (r ++ [n]) (xs.drop x) = xs.take x :: chunks r (xs.drop x) ++ _
    rw [ih, List.drop_drop]
    rfl
theorem chunks_len {α : Type} : ∀ (ns : List Nat) (xs : List α), (chunks ns xs).length = ns.length
  | [], _ => rfl
  | _ :: ns, xs => by rw [chunks, List.length_cons, chunks_len ns]; rfl
/-- new lists, one for each -/
inductive Rows (H0 H : Hp) : List Addr → List (List V) → Prop
  | nil : Rows H0 H [] []
  | cons {r : Addr} {xs : List V} {rs : List Addr} {xss : List (List V)} : H0 r = none → H r = some (.lst xs) → Rows H0 H rs xss → Rows H0 H (r :: rs) (xs :: xss)
theorem Rows.keep {H0 H H' : Hp} {rs : List Addr} {xss : List (List V)} (h : Rows H0 H rs xss) (f : ∀ r ∈ rs, ∀ o, H r = some o → H' r = some o) : Rows H0 H' rs xss := by
  induction h with
  | nil => exact .nil
  | cons a b _ ih => exact .cons a (f _ (List.mem_cons_self ..) _ b) (ih fun r m => f r (List.mem_cons_of_mem _ m))
theorem Rows.snoc {H0 H : Hp} {rs : List Addr} {xss : List (List V)} (h : Rows H0 H rs xss) {r : Addr} {xs : List V} (n : H0 r = none) (e : H r = some (.lst xs)) : Rows H0 H (rs ++ [r]) (xss ++ [xs]) := by
  induction h with
  | nil => exact .cons n e .nil
  | cons a b _ ih => exact .cons a b ih
theorem Rows.len {H0 H : Hp} {rs : List Addr} {xss : List (List V)} (h : Rows H0 H rs xss) : rs.length = xss.length := by
  induction h with
  | nil => rfl
  | cons _ _ _ ih => rw [List.length_cons, List.length_cons, ih]
theorem Rows.mem {H0 H : Hp} {rs : List Addr} {xss : List (List V)} (h : Rows H0 H rs xss) : ∀ r ∈ rs, H0 r = none ∧ ∃ xs, H r = some (.lst xs) := by
  induction h with
  | nil => intro r m; cases m
  | cons a b _ ih =>
    intro r m
    rcases List.mem_cons.mp m with m | m
    · rw [m]; exact ⟨a, _, b⟩
    · exact ih r m
theorem cut_nat (xs : List V) (i n : Nat) (h : i + n ≤ xs.length) : cutV xs (some (i : Int)) (some ((i : Int) + (n : Int))) = (xs.drop i).take n := by
  have e : (i : Int) + (n : Int) = ((i + n : Nat) : Int) := by omega
  unfold cutV
  rw [e, HT.sIx_nat, HT.sIx_nat, Nat.min_eq_left (show i ≤ xs.length by omega), Nat.min_eq_left h, show i + n - i = n by omega]
theorem nsum_take (ns : List Nat) (i : Nat) : nsum (ns.take i) ≤ nsum ns := by
  induction ns generalizing i with
  | nil => simp [nsum]
  | cons x r ih =>
    cases i with
    | zero => exact Nat.zero_le _
    | succ i => have := ih i; simp only [List.take_succ_cons, nsum]; omega
def forms : Kd → List Str
  | .num => ["num"]
  | .pair a b => "pair" :: (forms a ++ forms b)
  | .seq a => "seq" :: forms a
theorem forms_len (k : Kd) : (forms k).length = k.sz := by
  induction k with
  | num => rfl
  | pair a b iha ihb => simp only [forms, Kd.sz, List.length_cons, List.length_append]; omega
  | seq a ih => simp only [forms, Kd.sz, List.length_cons]; omega
def kinds (H : Hp) : List Kd → List V → Prop
  | [], [] => True
  | k :: ks, v :: vs => KdAt H k v ∧ kinds H ks vs
  | _, _ => False
theorem kinds.kt {H H' : Hp} (t : Kt H H') : ∀ {ks : List Kd} {vs : List V}, kinds H ks vs → kinds H' ks vs
  | [], [], _ => trivial
  | _ :: _, _ :: _, ⟨a, b⟩ => ⟨a.kt t, b.kt t⟩
  | [], _ :: _, h => h.elim
  | _ :: _, [], h => h.elim
theorem kinds.len {H : Hp} : ∀ {ks : List Kd} {vs : List V}, kinds H ks vs → vs.length = ks.length
  | [], [], _ => rfl
  | _ :: _, _ :: _, ⟨_, b⟩ => by rw [List.length_cons, List.length_cons, b.len]
  | [], _ :: _, h => h.elim
  | _ :: _, [], h => h.elim
def szs (ks : List Kd) : Nat := (ks.map Kd.sz).foldr (· + ·) 0
theorem szs_cons (k : Kd) (ks : List Kd) : szs (k :: ks) = k.sz + szs ks := rfl
theorem sz_pos (k : Kd) : 1 ≤ k.sz := by cases k <;> simp only [Kd.sz] <;> omega
theorem len_szs (ks : List Kd) : ks.length ≤ szs ks := by
  induction ks with
  | nil => exact Nat.le_refl _
  | cons k r ih => rw [List.length_cons, szs_cons]; have := sz_pos k; omega
theorem kinds.app {H : Hp} {ls : List Kd} {us : List V} (h : kinds H ls us) : ∀ {ks : List Kd} {vs : List V}, kinds H ks vs → kinds H (ks ++ ls) (vs ++ us)
  | [], [], _ => h
  | _ :: _, _ :: _, ⟨a, b⟩ => ⟨a, kinds.app h b⟩
  | [], _ :: _, h => h.elim
  | _ :: _, [], h => h.elim
theorem szs_app (a b : List Kd) : szs (a ++ b) = szs a + szs b := by
  induction a with
  | nil => simp [szs]
  | cons x r ih => rw [List.cons_append, szs_cons, szs_cons, ih]; omega
theorem KdAt.form {H : Hp} : ∀ {k : Kd} {v : V}, KdAt H k v → ∃ kp wd us ks, v = .ref kp ∧ H kp = some (.tup (.str wd :: us)) ∧ kinds H ks us ∧ forms k = wd :: ks.flatMap forms ∧ szs ks + 1 = k.sz ∧ us.length ≤ 2
  | .num, _, ⟨p, e, h⟩ => ⟨p, "num", [], [], e, h, trivial, rfl, rfl, by decide⟩
  | .pair k1 k2, _, ⟨p, u1, u2, e, h, h1, h2⟩ => ⟨p, "pair", [u1, u2], [k1, k2], e, h, ⟨h1, h2, trivial⟩, by simp [forms], by show k1.sz + (k2.sz + 0) + 1 = k1.sz + k2.sz + 1; omega, Nat.le_refl _⟩
  | .seq k1, _, ⟨p, u1, e, h, h1⟩ => ⟨p, "seq", [u1], [k1], e, h, ⟨h1, trivial⟩, by simp [forms], by show k1.sz + 0 + 1 = k1.sz + 1; omega, Nat.le_succ _⟩
section
variable {P : Program} {w : World} {K : PySem.W.Frag} {mg : Str → Option Value} {base : Heap} {a : GAd}
def spCut : Sp := fun vs H Q _ => ∃ (p b : Addr) (xs : List V) (ns : List Nat), vs = [.ref p, .ref b] ∧ SqL K H p xs ∧ SqL K H b ((ns.map fun (n : Nat) => (n : Int)).map V.int) ∧ nsum ns ≤ xs.length ∧ ns.length ≤ 1000 ∧
  ∀ (H' : Hp) (r : Addr) (rs : List Addr), Same H H' → H r = none → H' r = some (.lst (rs.map V.ref)) → Rows H H' rs (chunks ns xs) → rs.Nodup → r ∉ rs → Q (.ref r) H'
theorem seq_same {H H' : Hp} {p : Addr} {xs : List V} (s : Same H H') (h : SqL K H p xs) : SqL K H' p xs := by
  rcases h with (h | ⟨o, h⟩) | h
  · exact .inl (.inl (s _ _ h))
  · exact .inl (.inr ⟨o, s _ _ h⟩)
  · exact .inr h
theorem ok_cut (T : GTxt K mg a) : FnOk P w K mg base CX0 1 a.cut.1 a.cut.2 ["values", "lengths"] (spCut (K := K)) := by
  refine T.cut.F.ok sc_cut (fun vs H Q E h => ?_) (fun cdv A outer s H vs Q E hr h => ?_)
  · obtain ⟨_, _, _, _, rfl, _⟩ := h
    rfl
  obtain ⟨p, b, xs, ns, rfl, hp, hb, hsum, hn, q⟩ := h
  have nd := sc_cut.nd
  refine ⟨_, (pss_cons (ps_set (i := 2) nd rfl (Or.inl rfl) (pe_lst pa_nil))
  (pss_cons (ps_set (i := 3) nd rfl (Or.inl rfl) pe_int)
  (pss_cons (ps_for PassesOwn.never rfl (pi_list (pv 1)) (pg_name (i := 4) nd rfl (Or.inl rfl)) (pss_cons (ps_expr (pe_bm PySem.F.plainAttrs_list PySem.F.slot_list_append PySem.F.type_list_append mt_append (pv 2) (pa_cons (pe_slice sl_list (pv 0) (po_some (pv 3)) (po_some (pe_op op_add (pv 3) (pv 4)))) pa_nil)))
  (pss_one (ps_aug (i := 3) nd rfl (Or.inl rfl) (pv 4) ip_add))))
  (pss_one (ps_ret (pv 2)))))), ?_⟩
  refine ⟨(by show 0 ≤ sizeLine; decide), fun r hr0 => ?_⟩
  have s1 := same_new hr0 (.lst [])
  refine ⟨_, rfl, b, rfl, ⟨_, seq_same s1 hb⟩, for_list (K := K) (a := b) (xs := (ns.map fun (n : Nat) => (n : Int)).map V.int) (fun i σ H1 => ∃ (rs : List Addr) (v4 : Option V), σ = [some (.ref p), some (.ref b), some (.ref r), some (.int ((nsum (ns.take i) : Nat) : Int)), v4] ∧ Same H H1 ∧ H1 r = some (.lst (rs.map V.ref)) ∧ Rows H H1 rs (chunks (ns.take i) xs) ∧ rs.Nodup ∧ r ∉ rs) ⟨[], none, rfl, s1, upd_same, .nil, List.nodup_nil, fun z => nomatch z⟩ (fun i σ H1 _ h => by obtain ⟨_, _, _, s, _⟩ := h; exact seq_same s hb) ?_ ?_⟩
  · rintro i y σ H1 hy ⟨rs, v4, rfl, s01, hr1, hR, hnd, hni⟩
    rw [List.getElem?_map, List.getElem?_map] at hy
    obtain ⟨n, hi, rfl⟩ : ∃ n, ns[i]? = some n ∧ y = V.int (n : Int) := by
      cases e : ns[i]? with
      | none => rw [e] at hy; cases hy
      | some n => rw [e] at hy; exact ⟨n, rfl, (Option.some.inj hy).symm⟩
    have et := take_snoc hi
    have tot := nsum_take ns (i + 1)
    rw [et, nsum_snoc] at tot
    have rl := hR.len
    rw [chunks_len, List.length_take] at rl
    refine ⟨_, rfl, .inl ⟨rfl, _, SqL.of hr1⟩, _, rfl, _, rfl, _, rfl, _, rfl, _, rfl, _, _, rfl, rfl, _, rfl, p, xs, rfl, seq_same s01 hp, fun d hd => ?_⟩
    have s2 := same_new hd (.lst (cutV xs (some ((nsum (ns.take i) : Nat) : Int)) (some (((nsum (ns.take i) : Nat) : Int) + (n : Int)))))
    have nrd : r ≠ d := ref_ne2 hr1 hd
    refine ⟨r, _, _, rfl, rfl, (by rw [upd_ne nrd]; exact hr1), by rw [List.length_map]; exact small1000 (by omega), ?_⟩
    have hd0 : H d = none := free_back s01 hd
    have cn := cut_nat xs (nsum (ns.take i)) n (by omega)
    refine ⟨_, rfl, _, rfl, _, _, rfl, rfl, rs ++ [d], some (V.int (n : Int)), ?_, fun c o e => ?_, ?_, ?_, ?_, ?_⟩
    · rw [et, nsum_snoc]; rfl
    · rw [upd_ne (ref_ne2 e hr0)]; exact s2 _ _ (s01 _ _ e)
    · rw [List.map_append]; exact upd_same
    · rw [et, chunks_snoc]
      refine (hR.keep fun c m o e => ?_).snoc hd0 ?_
      · rw [upd_ne (fun z => hni (by rw [← z]; exact m))]; exact s2 _ _ e
      · rw [upd_ne nrd.symm, upd_same, cn]
    · refine List.nodup_append.mpr ⟨hnd, by simp, fun c m d' m' z => ?_⟩
      rw [List.mem_singleton.mp m'] at z
      obtain ⟨_, _, e⟩ := hR.mem c m
      rw [z, hd] at e; cases e
    · intro m
      rcases List.mem_append.mp m with m | m
      · exact hni m
      · exact nrd (List.mem_singleton.mp m)
  · rintro σ H1 ⟨rs, v4, rfl, s01, hr1, hR, hnd, hni⟩
    rw [List.length_map, List.length_map, List.take_length] at hR
    exact ⟨_, rfl, q H1 r rs s01 hr0 hr1 hR hnd hni⟩
def spForms : Sp := fun vs H Q _ => ∃ (kv : V) (k : Kd), vs = [kv] ∧ KdAt H k kv ∧ k.sz ≤ 900 ∧ ∀ (H' : Hp) (r : Addr), Same H H' → H r = none → H' r = some (.lst ((forms k).map V.str)) → Q (.ref r) H'
theorem ok_forms_of (T : GTxt K mg a) : FnOk P w K mg base CX0 1 a.forms_of.1 a.forms_of.2 ["kind"] spForms := by
  refine T.forms_of.F.ok sc_forms_of (fun vs H Q E h => ?_) (fun cdv A outer s H vs Q E hr h => ?_)
  · obtain ⟨_, _, rfl, _⟩ := h
    rfl
  obtain ⟨kv, k, rfl, hk, hz, q⟩ := h
  have nd := sc_forms_of.nd
  refine ⟨_, (pss_cons (ps_set (i := 1) nd rfl (Or.inl rfl) (pe_lst pa_nil))
  (pss_cons (ps_set (i := 2) nd rfl (Or.inl rfl) (pe_lst (pa_cons (pv 0) pa_nil)))
  (pss_cons (ps_while PassesOwn.never (pt_truth (pv 2) (by intro _; rfl)) (pss_cons (ps_set (i := 3) nd rfl (Or.inl rfl) (pe_bm0 PySem.F.plainAttrs_list PySem.F.slot_list_pop PySem.F.type_list_pop mt_pop (pv 2)))
  (pss_cons (ps_expr (pe_bm PySem.F.plainAttrs_list PySem.F.slot_list_append PySem.F.type_list_append mt_append (pv 1) (pa_cons (pe_ix ix_tup (pv 3) pe_int (fun _ _ => rfl)) pa_nil)))
  (pss_one (ps_expr (pe_bm PySem.F.plainAttrs_list PySem.F.slot_list_extend PySem.F.type_list_extend (ET.mt_extT) (pv 2) (pa_cons (RT.pe_tail (pv 3)) pa_nil)))))))
  (pss_one (ps_ret (pv 1)))))), ?_⟩
  refine ⟨(by show 0 ≤ sizeLine; decide), fun fo hfo => ?_⟩
  have s1 := same_new hfo (.lst [])
  refine ⟨_, rfl, (by show 1 ≤ sizeLine; decide), fun wt hwt => ?_⟩
  have s2 := same_new hwt (.lst [kv])
  have ne1 : fo ≠ wt := ne_of_none (upd_same (a := fo) (H := H)) hwt
  have wt0 : H wt = none := free_back s1 hwt
  refine ⟨fun n σ H' => ∃ (ws : List Kd) (done : List Str) (r : List V) (x3 : Option V), σ = [some kv, some (.ref fo), some (.ref wt), x3] ∧ n = szs ws ∧ H' wt = some (.lst r.reverse) ∧ H' fo = some (.lst (done.map V.str)) ∧ kinds H' ws r ∧ done ++ ws.flatMap forms = forms k ∧ done.length + szs ws ≤ k.sz ∧ (∀ b o, b ≠ fo → b ≠ wt → H b = some o → H' b = some o),
    ⟨szs [k], [k], [], [kv], none, rfl, rfl, upd_same, s2 _ _ upd_same, ⟨hk.kt (Kt.of (s1.trans s2)), trivial⟩, by simp, (by show 0 + (k.sz + 0) ≤ k.sz; omega), fun b o _ _ e => s2 _ _ (s1 _ _ e)⟩, ?_⟩
  rintro n σ H' ⟨ws, done, r, x3, rfl, rfl, hwt', hfo', hst, hlin, hbd, hold⟩
  have rl := hst.len
  have wl := len_szs ws
  refine ⟨_, rfl, _, .inl ⟨_, SqL.of hwt', rfl⟩, ?_⟩
  match ws, r, hst with
  | [], [], _ =>
    refine ifF rfl ?_
    have hlin' : done = forms k := by simpa using hlin
    rw [hlin'] at hfo'
    exact ⟨_, rfl, q H' fo (fun b o e => hold b o (ref_ne2 e hfo) (ref_ne2 e wt0) e) hfo hfo'⟩
  | k0 :: ws, y :: r, ⟨hk0, hst⟩ =>
    rw [List.reverse_cons] at hwt'
    rw [szs_cons] at hbd
    simp only [List.length_cons] at rl wl
    rw [szs_cons] at wl
    have k0p := sz_pos k0
    refine ifT (by rw [List.reverse_cons]; cases r.reverse <;> rfl) ?_
    refine ⟨fun σ2 H2 => ∃ (ws2 : List Kd) (done2 : List Str) (r2 : List V) (x3 : Option V), σ2 = [some kv, some (.ref fo), some (.ref wt), x3] ∧ szs ws2 < szs (k0 :: ws) ∧ H2 wt = some (.lst r2.reverse) ∧ H2 fo = some (.lst (done2.map V.str)) ∧ kinds H2 ws2 r2 ∧ done2 ++ ws2.flatMap forms = forms k ∧ done2.length + szs ws2 ≤ k.sz ∧ (∀ b o, b ≠ fo → b ≠ wt → H b = some o → H2 b = some o), ?_, ?_⟩
    · rintro σ2 H2 ⟨ws2, done2, r2, x3, e1, lt, rest⟩
      exact ⟨szs ws2, lt, ws2, done2, r2, x3, e1, rfl, rest⟩
    refine ⟨_, rfl, .inl ⟨rfl, _, SqL.of hwt'⟩, wt, _, y, rfl, rfl, hwt', ?_, ?_⟩
    · rw [List.length_append]; simp
    rw [List.dropLast_concat]
    have t2 : Kt H' (upd H' wt (.lst r.reverse)) := fun b xs e => by rw [upd_ne (fun z => by rw [z, hwt'] at e; cases e)]; exact e
    have fo2 : (upd H' wt (.lst r.reverse)) fo = some (.lst (done.map V.str)) := by rw [upd_ne ne1]; exact hfo'
    have wt2 : (upd H' wt (.lst r.reverse)) wt = some (.lst r.reverse) := upd_same
    have hold2 : ∀ b o, b ≠ fo → b ≠ wt → H b = some o → (upd H' wt (.lst r.reverse)) b = some o := fun b o n1 n2 e => by rw [upd_ne n2]; exact hold b o n1 n2 e
    have hst2 := hst.kt t2
    have hk2 := hk0.kt t2
    generalize upd H' wt (.lst r.reverse) = H2 at fo2 wt2 hold2 hst2 hk2
    obtain ⟨kp, wd, us, ks, rfl, hkp, hks0, hf, hsz0, hul⟩ := KdAt.form hk2
    have hks : kinds H2 (ks ++ ws) (us ++ r) := kinds.app hst2 hks0
    have hsz : szs (ks ++ ws) + 1 = k0.sz + szs ws := by rw [szs_app]; omega
    refine ⟨_, rfl, .inl ⟨rfl, _, SqL.of fo2⟩, _, rfl, kp, _, _, _, rfl, rfl, SqT.of hkp, atI_nat (j := 0) rfl, fo, _, _, rfl, rfl, fo2, ?_, ?_⟩
    · rw [List.length_map]; exact small1000 (by omega)
    have t3 : Kt H2 (upd H2 fo (.lst (done.map V.str ++ [.str wd]))) := fun b xs e => by rw [upd_ne (fun z => by rw [z, fo2] at e; cases e)]; exact e
    have wt3 : (upd H2 fo (.lst (done.map V.str ++ [.str wd]))) wt = some (.lst r.reverse) := by rw [upd_ne ne1.symm]; exact wt2
    refine ⟨_, rfl, .inl ⟨rfl, _, SqL.of wt3⟩, _, rfl, kp, _, rfl, SqT.of (t3 _ _ hkp), by rw [List.length_cons]; omega, by rw [List.length_cons]; omega, fun d hd => ?_⟩
    have s4 := same_new hd (.tup (List.drop 1 (V.str wd :: us)).reverse)
    refine ⟨wt, d, r.reverse, us.reverse, rfl, rfl, s4 _ _ wt3, SqT.of upd_same, ?_, ?_⟩
    · rw [List.length_reverse, List.length_reverse]
      exact Nat.le_of_lt (small1000 (by omega))
    have t5 : Kt (upd H2 fo (.lst (done.map V.str ++ [.str wd]))) (upd (upd (upd H2 fo (.lst (done.map V.str ++ [.str wd]))) d (.tup (List.drop 1 (V.str wd :: us)).reverse)) wt (.lst (r.reverse ++ us.reverse))) := fun b xs e => by
      rw [upd_ne (fun z => by rw [z, wt3] at e; cases e)]
      exact s4 _ _ e
    refine ⟨ks ++ ws, done ++ [wd], us ++ r, _, rfl, by rw [szs_cons]; omega, ?_, ?_, (hks.kt t3).kt t5, ?_, ?_, fun b o n1 n2 e => ?_⟩
    · rw [List.reverse_append]; exact upd_same
    · rw [upd_ne ne1, s4 _ _ upd_same, List.map_append]; rfl
    · rw [List.flatMap_append, ← hlin, List.flatMap_cons, hf, List.append_assoc]
      rfl
    · rw [List.length_append, List.length_singleton]; omega
    · rw [upd_ne n2]
      exact s4 _ _ (by rw [upd_ne n1]; exact hold2 b o n1 n2 e)
end
end K5

namespace K5
open PySem PySem.Spec PyProof.Rows L2 KV
theorem pg_tupK {X : Cx} {K : PySem.W.Frag} {es : List Expr} {k : Nat} {pos : Pos} {t : TGs} {n : Nat} (hK : X.K = K) (hc : X.calm = true) (h : PGs X es t) (hn : (assignEach es X.env).length = n := by rfl) (hst : (assignEach es X.env).findIdx? (·.1) = none := by rfl) : PG X (.Tuple es k pos) (gTup K n t) := hK ▸ pg_tup hc h hn hst
theorem pi_listK {X : Cx} {K : PySem.W.Frag} {tg l : Expr} {tl : TE} (hK : X.K = K) (hl : PE X l tl) : PI X tg l (iList K tl) := hK ▸ pi_list hl
/-- a walk over a list, whatever is done for an item -/
theorem walk_body {K : PySem.W.Frag} {a : Addr} {xs : List V} {H0 : Hp} {Qd : Hp → Prop} {B : V → Hp → (Hp → Prop) → Prop} (Pv : Nat → Hp → Prop) (h0 : Pv 0 H0) (hl : ∀ i H, i ≤ xs.length → Pv i H → SqL K H a xs)
    (hs : ∀ i x H, xs[i]? = some x → Pv i H → B x H (Pv (i + 1))) (hd : ∀ H, Pv xs.length H → Qd H) :
    ∃ W : Nat → Nat → Hp → Prop, (∃ m, W 0 m H0) ∧ ∀ i m H, W i m H →
      ((Itl K a).stop i H ∧ Qd H) ∨ ((Itl K a).go i H ∧ ∃ Nx : Hp → Prop, (∀ H', Nx H' → ∃ m', m' < m ∧ W (i + 1) m' H') ∧ ∀ x H', (Itl K a).yld i H x H' → B x H' Nx) := by
  refine ⟨fun i m H => m = xs.length - i ∧ i ≤ xs.length ∧ Pv i H, ⟨xs.length, rfl, Nat.zero_le _, h0⟩, ?_⟩
  rintro i m H ⟨rfl, hi, p⟩
  have q := hl i H hi p
  by_cases c : i < xs.length
  · refine .inr ⟨⟨xs, xs[i], q, List.getElem?_eq_getElem c⟩, Pv (i + 1), fun H' p' => ⟨xs.length - (i + 1), by omega, rfl, c, p'⟩, ?_⟩
    rintro x H' ⟨rfl, hx⟩
    exact hs i x _ (hx xs q) p
  · have e : i = xs.length := by omega
    subst e
    exact .inl ⟨⟨xs, q, Nat.le_refl _⟩, hd H p⟩
section
variable {P : Program} {w : World} {K : PySem.W.Frag} {mg : Str → Option Value} {base : Heap} {a : GAd}
/-! ### a value is spoilt -/
def spSpoil : Sp := fun vs H Q _ => ∃ (k : Kd) (x : Val k) (v : V) (as : List Addr), vs = [v] ∧ VAt H k x v as ∧ as.Nodup ∧ Bd 1000 k x ∧ ∀ H', (∀ b o, b ∉ as → H b = some o → H' b = some o) → Q .non H'
theorem ok_law_spoil (T : GTxt K mg a) (n : Nat) : FnOk P w K mg base CX0 (n + 1) a.law_spoil.1 a.law_spoil.2 ["value"] (fun vs H Q E => ∃ k : Kd, k.dep ≤ n ∧ ∃ (x : Val k) (v : V) (as : List Addr), vs = [v] ∧ VAt H k x v as ∧ as.Nodup ∧ Bd 1000 k x ∧ ∀ H', (∀ b o, b ∉ as → H b = some o → H' b = some o) → Q .non H') := by
  induction n with
  | zero =>
    refine nodep fun vs H Q E z => ?_
    obtain ⟨k, h, _⟩ := z
    have := dep_pos k
    omega
  | succ n ih =>
  refine T.law_spoil.F.ok sc_law_spoil (fun vs H Q E h => ?_) (fun cdv A outer s H vs Q E hr h => ?_)
  · obtain ⟨k, _, x, v, as, rfl, _⟩ := h
    rfl
  obtain ⟨k, hk, x, v, as, rfl, hv, hnd, hb, q⟩ := h
  have nd := sc_law_spoil.nd
  have G_law_spoil := ih
  refine ⟨_, (pss_cons (ps_if (pt_val (pe_callB call_isi (by rfl) T.isinstance (by decide +kernel) (pa_cons (pv 0) (pa_cons (pe_bltn (v := .ty "tuple") rfl T.tuple (by decide +kernel) rfl) pa_nil)))) (pss_cons (ps_expr (pe_call G_law_spoil (hr.mono (by omega)) rfl T.law_spoil.g T.law_spoil.F.kp T.law_spoil.b .nil pass0 (pa_cons (pe_ix ix_tup (pv 0) pe_int (fun _ _ => rfl)) pa_nil)))
  (pss_one (ps_expr (pe_call G_law_spoil (hr.mono (by omega)) rfl T.law_spoil.g T.law_spoil.F.kp T.law_spoil.b .nil pass0 (pa_cons (pe_ix ix_tup (pv 0) pe_int (fun _ _ => rfl)) pa_nil))))) pss_nil)
  (pss_one (ps_if (pt_val (pe_callB call_isi (by rfl) T.isinstance (by decide +kernel) (pa_cons (pv 0) (pa_cons (pe_bltn (v := .ty "list") rfl T.list (by decide +kernel) rfl) pa_nil)))) (pss_cons (ps_for PassesOwn.never rfl (pi_list (pv 0)) (pg_name (i := 1) nd rfl (Or.inl rfl)) (pss_one (ps_expr (pe_call G_law_spoil (hr.mono (by omega)) rfl T.law_spoil.g T.law_spoil.F.kp T.law_spoil.b .nil pass0 (pa_cons (pv 1) pa_nil)))))
  (pss_one (ps_expr (pe_bm PySem.F.plainAttrs_list PySem.F.slot_list_append PySem.F.type_list_append mt_append (pv 0) (pa_cons pe_int pa_nil))))) pss_nil))), ?_⟩
  match k, hk, x, hv, hb with
  | .num, hk, x, hv, hb =>
    obtain ⟨rfl, rfl⟩ := hv
    refine ⟨_, rfl, _, _, _, _, false, rfl, .ty _, .base (.int _), kit_ty (by decide +kernel), _, rfl, ?_⟩
    refine ifF rfl ?_
    refine ⟨_, rfl, _, _, _, _, false, rfl, .ty _, .base (.int _), kit_ty (by decide +kernel), _, rfl, ?_⟩
    refine ifF rfl ?_
    exact q H fun _ _ _ e => e
  | .pair k1 k2, hk, x, hv, hb =>
    obtain ⟨p, u1, u2, as1, as2, rfl, hp, h1, h2, rfl⟩ := hv
    have d1 : k1.dep ≤ n := by simp only [Kd.dep] at hk; omega
    have d2 : k2.dep ≤ n := by simp only [Kd.dep] at hk; omega
    obtain ⟨nd1, nd2, dj⟩ := List.nodup_append.mp hnd
    refine ⟨_, rfl, _, _, _, _, true, rfl, .ty _, .base (.tup hp), kit_ty (by decide +kernel), _, rfl, ?_⟩
    refine ifT rfl ?_
    refine ⟨_, rfl, p, _, _, _, rfl, rfl, SqT.of hp, atI_nat (j := 0) rfl, k1, d1, x.1, u1, as1, rfl, h1, nd1, hb.1, fun H1 f1 => ?_⟩
    have t1 : ∀ b ∈ as1, ∀ ys, H b ≠ some (.tup ys) := fun b m ys e => by obtain ⟨us, z⟩ := h1.lists b m; rw [z] at e; cases e
    have hp1 : H1 p = some (.tup [u1, u2]) := f1 p _ (fun m => t1 p m _ hp) hp
    have h21 : VAt H1 k2 x.2 u2 as2 := h2.off t1 f1 fun b m m1 => dj b m1 b m rfl
    refine ⟨_, rfl, p, _, _, _, rfl, rfl, SqT.of hp1, atI_nat (j := 1) rfl, k2, d2, x.2, u2, as2, rfl, h21, nd2, hb.2, fun H2 f2 => ?_⟩
    have t2 : ∀ b ∈ as2, ∀ ys, H1 b ≠ some (.tup ys) := fun b m ys e => by obtain ⟨us, z⟩ := h21.lists b m; rw [z] at e; cases e
    have hp2 : H2 p = some (.tup [u1, u2]) := f2 p _ (fun m => t2 p m _ hp1) hp1
    refine ⟨_, rfl, _, _, _, _, false, rfl, .ty _, .base (.tup hp2), kit_ty (by decide +kernel), _, rfl, ?_⟩
    refine ifF rfl ?_
    refine q H2 fun b o m e => f2 b o (fun z => m (List.mem_append_right _ z)) (f1 b o (fun z => m (List.mem_append_left _ z)) e)
  | .seq k1, hk, xs, hv, hb =>
    obtain ⟨p, us, ass, rfl, hp, hA, rfl⟩ := hv
    have d1 : k1.dep ≤ n := by simp only [Kd.dep] at hk; omega
    obtain ⟨np, nf⟩ := List.nodup_cons.mp hnd
    have hul : us.length ≤ 1000 := by rw [hA.len.1]; exact hb.1
    refine ⟨_, rfl, _, _, _, _, false, rfl, .ty _, .base (.lst hp), kit_ty (by decide +kernel), _, rfl, ?_⟩
    refine ifF rfl ?_
    refine ⟨_, rfl, _, _, _, _, true, rfl, .ty _, .base (.lst hp), kit_ty (by decide +kernel), _, rfl, ?_⟩
    refine ifT rfl ?_
    have frame : ∀ i (H1 : Hp), (∀ b o, b ∉ (ass.take i).flatten → H b = some o → H1 b = some o) → H1 p = some (.lst us) := fun i H1 f => f p _ (fun m => np (by
      obtain ⟨as, m1, m2⟩ := List.mem_flatten.mp m
      exact List.mem_flatten.mpr ⟨as, List.mem_of_mem_take m1, m2⟩)) hp
    refine ⟨_, rfl, p, rfl, ⟨_, SqL.of hp⟩, for_list (K := K) (a := p) (xs := us) (fun i σ H1 => ∃ v1, σ = [some (.ref p), v1] ∧ ∀ b o, b ∉ (ass.take i).flatten → H b = some o → H1 b = some o) ⟨none, rfl, fun _ _ _ e => e⟩ (fun i σ H1 _ h => by obtain ⟨_, _, f⟩ := h; exact SqL.of (frame i H1 f)) ?_ ?_⟩
    · rintro i y σ H1 hy ⟨v1, rfl, f⟩
      obtain ⟨z, as, e1, e2, hz⟩ := hA.get hy
      have hi : i < ass.length := (List.getElem?_eq_some_iff.mp e2).1
      have split : ass.flatten = (ass.take i).flatten ++ (as ++ (ass.drop (i + 1)).flatten) := by
        have dr : ass.drop i = as :: ass.drop (i + 1) := by rw [List.drop_eq_getElem_cons hi, (List.getElem?_eq_some_iff.mp e2).2]
        have : ass = ass.take i ++ (as :: ass.drop (i + 1)) := by rw [← dr, List.take_append_drop]
        conv => lhs; rw [this]
        rw [List.flatten_append, List.flatten_cons]
      rw [split] at nf
      obtain ⟨n1, n2, dj⟩ := List.nodup_append.mp nf
      obtain ⟨n3, _, _⟩ := List.nodup_append.mp n2
      have tl : ∀ b ∈ (ass.take i).flatten, ∀ ys, H b ≠ some (.tup ys) := fun b m ys e => by
        have hv2 : VAt H (.seq k1) xs (.ref p) (p :: ass.flatten) := ⟨p, us, ass, rfl, hp, hA, rfl⟩
        obtain ⟨ws, z⟩ := hv2.lists b (List.mem_cons_of_mem _ (by rw [split]; exact List.mem_append_left _ m))
        rw [z] at e; cases e
      have hz1 : VAt H1 k1 z y as := hz.off tl f fun b m m1 => dj b m1 b (List.mem_append_left _ m) rfl
      refine ⟨_, rfl, k1, d1, z, y, as, rfl, hz1, n3, hb.2 z (List.mem_of_getElem? e1), fun H2 f2 => ?_⟩
      refine ⟨_, rfl, fun b o m e => ?_⟩
      have et : (ass.take (i + 1)).flatten = (ass.take i).flatten ++ as := by
        rw [List.take_add_one, e2, List.flatten_append]
        simp
      rw [et] at m
      exact f2 b o (fun z => m (List.mem_append_right _ z)) (f b o (fun z => m (List.mem_append_left _ z)) e)
    · rintro σ H1 ⟨v1, rfl, f⟩
      have hp1 := frame _ H1 f
      refine ⟨_, rfl, .inl ⟨rfl, _, SqL.of hp1⟩, p, us, _, rfl, rfl, hp1, small1000 hul, ?_⟩
      refine q _ fun b o m e => ?_
      rw [upd_ne (fun z => m (by rw [z]; exact List.mem_cons_self ..))]
      refine f b o (fun z => m (List.mem_cons_of_mem _ ?_)) e
      obtain ⟨as, m1, m2⟩ := List.mem_flatten.mp z
      exact List.mem_flatten.mpr ⟨as, List.mem_of_mem_take m1, m2⟩
end
end K5

namespace K5
open PySem PySem.Spec PyProof.Rows L2 KV
theorem ifY {c A B : Prop} [Decidable c] (h : c) (q : A) : if c then A else B := by rw [if_pos h]; exact q
theorem ifN {c A B : Prop} [Decidable c] (h : ¬ c) (q : B) : if c then A else B := by rw [if_neg h]; exact q
/-! ### the vectors that are made -/
structure Job where
  k : Kd
  vs : List (Val k)
inductive Jobs (H0 H : Hp) (D W : Addr) : List Job → List V → Prop
  | nil : Jobs H0 H D W [] []
  | cons {j : Job} {t ln : Addr} {kv : V} {us : List V} {ass : List (List Addr)} {js : List Job} {ts : List V} : H t = some (.tup [kv, .ref ln]) → KdAt H0 j.k kv → ln ≠ D → ln ≠ W → H ln = some (.lst us) → All3 (VAt H0 j.k) j.vs us ass → fits 1000 j.k j.vs → Jobs H0 H D W js ts →
      Jobs H0 H D W (j :: js) (.ref t :: ts)
theorem Jobs.keep {H0 H H' : Hp} {D W : Addr} {js : List Job} {ts : List V} (h : Jobs H0 H D W js ts) (t : Kt H H') (f : ∀ b o, b ≠ D → b ≠ W → H b = some o → H' b = some o) : Jobs H0 H' D W js ts := by
  induction h with
  | nil => exact .nil
  | cons a b c d e g i _ ih => exact .cons (t _ _ a) b c d (f _ _ c d e) g i ih
theorem Jobs.len {H0 H : Hp} {D W : Addr} {js : List Job} {ts : List V} (h : Jobs H0 H D W js ts) : ts.length = js.length := by
  induction h with
  | nil => rfl
  | cons _ _ _ _ _ _ _ _ ih => rw [List.length_cons, List.length_cons, ih]
def jvecs (js : List Job) : List (List Int) := js.flatMap fun j => vecs j.k j.vs
def jsz (js : List Job) : Nat := (js.map fun j => j.k.sz).foldr (· + ·) 0
theorem jsz_cons (j : Job) (js : List Job) : jsz (j :: js) = j.k.sz + jsz js := rfl
theorem len_jsz (js : List Job) : js.length ≤ jsz js := by
  induction js with
  | nil => exact Nat.le_refl _
  | cons j r ih => rw [List.length_cons, jsz_cons]; have := sz_pos j.k; omega
def rows (vss : List (List Int)) : List (List V) := vss.map fun ns => ns.map V.int
theorem rows_all {H0 H : Hp} {qs : List Addr} {vss : List (List Int)} (h : Rows H0 H qs (rows vss)) : All3 (VAt H (.seq .num)) vss (qs.map V.ref) (qs.map fun q => [q]) ∧ ∀ q ∈ qs, H0 q = none := by
  induction qs generalizing vss with
  | nil =>
    cases vss with
    | nil => exact ⟨.nil, fun _ m => nomatch m⟩
    | cons _ _ => cases h
  | cons q r ih =>
    cases vss with
    | nil => cases h
    | cons v vss =>
      cases h with
      | cons a b c =>
        have i := ih c
        refine ⟨.cons (vat_ints b) i.1, fun x m => ?_⟩
        rcases List.mem_cons.mp m with m | m
        · rw [m]; exact a
        · exact i.2 x m
theorem one_flat (qs : List Addr) : (qs.map fun q => [q]).flatten = qs := by
  induction qs with
  | nil => rfl
  | cons q r ih => rw [List.map_cons, List.flatten_cons, ih]; rfl
section
variable {P : Program} {w : World} {K : PySem.W.Frag} {mg : Str → Option Value} {base : Heap} {a : GAd}
def spVecs (k : Kd) : Sp := fun vs H Q _ => ∃ (kv : V) (p : Addr) (xs : List (Val k)) (us : List V) (ass : List (List Addr)), vs = [kv, .ref p] ∧ KdAt H k kv ∧ LnAt H k xs p us ass ∧ fits 1000 k xs ∧ k.sz ≤ 900 ∧
  ∀ (H' : Hp) (r : Addr) (qs : List Addr), Same H H' → LnAt H' (.seq .num) (vecs k xs) r (qs.map V.ref) (qs.map fun q => [q]) → (r :: qs).Nodup → (∀ b ∈ r :: qs, H b = none) → Q (.ref r) H'
theorem cols_sz (k : Kd) : cols k ≤ k.sz := by
  induction k with
  | num => exact Nat.le_refl _
  | pair a b iha ihb => simp only [cols, Kd.sz]; omega
  | seq a ih => simp only [cols, Kd.sz]; omega
theorem ok_vectors_of (T : GTxt K mg a) (k : Kd) : FnOk P w K mg base CX0 1 a.vectors_of.1 a.vectors_of.2 ["kind", "values"] (spVecs k) := by
  refine T.vectors_of.F.ok sc_vectors_of (fun vs H Q E h => ?_) (fun cdv A outer s H vs Q E hr h => ?_)
  · obtain ⟨_, _, _, _, _, rfl, _⟩ := h
    rfl
  obtain ⟨kv, p, xs, us, ass, rfl, hk, hL, hf, hz, q⟩ := h
  have nd := sc_vectors_of.nd
  refine ⟨_, (pss_cons (ps_set (i := 2) nd rfl (Or.inl rfl) (pe_lst pa_nil))
  (pss_cons (ps_set (i := 3) nd rfl (Or.inl rfl) (pe_lst (pa_cons (pe_tup (pa_cons (pv 0) (pa_cons (pv 1) pa_nil))) pa_nil)))
  (pss_cons (ps_while PassesOwn.never (pt_truth (pv 3) (by intro _; rfl)) (pss_cons (ps_asg (pe_bm0 PySem.F.plainAttrs_list PySem.F.slot_list_pop PySem.F.type_list_pop mt_pop (pv 3)) (pg_tup rfl (pgs_cons (pg_name (i := 4) nd rfl (Or.inl rfl)) (pgs_cons (pg_name (i := 5) nd rfl (Or.inl rfl)) pgs_nil))))
  (pss_one (MX.ps_match (pe_ix ix_tup (pv 4) pe_int (fun _ _ => rfl)) (MX.pmc_tx (cs := ["num"]) rfl (pss_one (ps_expr (pe_bm PySem.F.plainAttrs_list PySem.F.slot_list_append PySem.F.type_list_append mt_append (pv 2) (pa_cons (pe_callTy call_list_of (by rfl) T.list (by decide +kernel) (pa_cons (pv 5) pa_nil)) pa_nil)))) (MX.pmc_tx (cs := ["pair"]) rfl (pss_cons (ps_expr (pe_bm PySem.F.plainAttrs_list PySem.F.slot_list_append PySem.F.type_list_append mt_append (pv 3) (pa_cons (pe_tup (pa_cons (pe_ix (ix_tupK (K := K) rfl) (pv 4) pe_int (fun _ _ => rfl)) (pa_cons (pe_lc (own := [("_", 7), ("second", 8)]) (tt := tYes) rfl nd (pi_list (pv 5)) (blkOk_by (N := ["kind", "values", "vectors", "waiting", "part", "lanes", "row", "_", "second", "first", "value"]) (sc := defScope s_vectors_of) (by decide +kernel)) (fun _ _ _ _ _ => (pg_tupK (K := K) (n := 2) rfl rfl (pgs_cons (pg_name (i := 7) nd rfl (Or.inl rfl)) (pgs_cons (pg_name (i := 8) nd rfl (Or.inl rfl)) pgs_nil)))) (fun _ _ _ _ _ => pts_nil) (fun _ _ _ _ _ => (pv 8))) pa_nil))) pa_nil)))
  (pss_one (ps_expr (pe_bm PySem.F.plainAttrs_list PySem.F.slot_list_append PySem.F.type_list_append mt_append (pv 3) (pa_cons (pe_tup (pa_cons (pe_ix (ix_tupK (K := K) rfl) (pv 4) pe_int (fun _ _ => rfl)) (pa_cons (pe_lc (own := [("first", 9), ("_", 7)]) (tt := tYes) rfl nd (pi_list (pv 5)) (blkOk_by (N := ["kind", "values", "vectors", "waiting", "part", "lanes", "row", "_", "second", "first", "value"]) (sc := defScope s_vectors_of) (by decide +kernel)) (fun _ _ _ _ _ => (pg_tupK (K := K) (n := 2) rfl rfl (pgs_cons (pg_name (i := 9) nd rfl (Or.inl rfl)) (pgs_cons (pg_name (i := 7) nd rfl (Or.inl rfl)) pgs_nil)))) (fun _ _ _ _ _ => pts_nil) (fun _ _ _ _ _ => (pv 9))) pa_nil))) pa_nil))))) (MX.pmc_any (pss_cons (ps_expr (pe_bm PySem.F.plainAttrs_list PySem.F.slot_list_append PySem.F.type_list_append mt_append (pv 2) (pa_cons (pe_lc (own := [("row", 6)]) (g := gName 6) (tt := tYes) rfl nd (pi_list (pv 5)) (blkOk_by (N := ["kind", "values", "vectors", "waiting", "part", "lanes", "row", "_", "second", "first", "value"]) (sc := defScope s_vectors_of) (by decide +kernel)) (fun _ _ _ _ _ => (pg_name (i := 6) nd rfl (Or.inl rfl))) (fun _ _ _ _ _ => pts_nil) (fun _ _ _ _ _ => (pe_callB (call_lenK (K := K) rfl) (by rfl) T.len PySem.boot_len (pa_cons (pv 6) pa_nil)))) pa_nil)))
  (pss_one (ps_expr (pe_bm PySem.F.plainAttrs_list PySem.F.slot_list_append PySem.F.type_list_append mt_append (pv 3) (pa_cons (pe_tup (pa_cons (pe_ix (ix_tupK (K := K) rfl) (pv 4) pe_int (fun _ _ => rfl)) (pa_cons (pe_lc2 (own := [("row", 6), ("value", 10)]) (vs1 := [10]) (g := gName 6) (tt := tYes) (g1 := gName 10) (tt1 := tYes) rfl nd (pi_list (pv 5)) (blkOk_by (N := ["kind", "values", "vectors", "waiting", "part", "lanes", "row", "_", "second", "first", "value"]) (sc := defScope s_vectors_of) (by decide +kernel)) (by decide) (fun _ _ _ _ _ => (pg_name (i := 6) nd rfl (Or.inl rfl))) (fun _ _ _ _ _ => pts_nil) (fun _ _ _ _ _ => (pi_listK (K := K) rfl (pv 6))) (fun _ _ _ _ _ => (pg_name (i := 10) nd rfl (Or.inl rfl))) (fun _ _ _ _ _ => pts_nil) (fun _ _ _ _ _ => (pv 10))) pa_nil))) pa_nil))))))))))))
  (pss_one (ps_ret (pv 2)))))), ?_⟩
  refine ⟨(by show 0 ≤ sizeLine; decide), fun D hD => ?_⟩
  have s1 := same_new hD (.lst [])
  refine ⟨_, rfl, _, rfl, (by show 2 ≤ sizeLine; decide), fun t0 ht0 => ⟨(by show 1 ≤ sizeLine; decide), fun W hW => ?_⟩⟩
  have s2 := same_new ht0 (.tup [kv, .ref p])
  have s3 := same_new hW (.lst [V.ref t0])
  have s03 := (s1.trans s2).trans s3
  have D3 := (s2.trans s3) _ _ (upd_same (a := D))
  have ne1 : D ≠ W := ne_of_none (s2 _ _ (upd_same (a := D))) hW
  have W0 : H W = none := free_back (s1.trans s2) hW
  have pD : p ≠ D := ref_ne2 hL.at_ hD
  have pW : p ≠ W := ref_ne2 hL.at_ W0
  have clen := vecs_length k xs
  have csz := cols_sz k
  refine ⟨fun n σ H' => ∃ (js : List Job) (done : List (List Int)) (qs : List Addr) (r : List V) (x4 x5 : Option V), σ = [some kv, some (.ref p), some (.ref D), some (.ref W), x4, x5, none, none, none, none, none] ∧ n = jsz js ∧ H' W = some (.lst r.reverse) ∧ H' D = some (.lst (qs.map V.ref)) ∧ Jobs H H' D W js r ∧ Rows H H' qs (rows done) ∧ qs.Nodup ∧ D ∉ qs ∧ W ∉ qs ∧ done ++ jvecs js = vecs k xs ∧ done.length + jsz js ≤ k.sz ∧ Same H H',
    ⟨jsz [⟨k, xs⟩], [⟨k, xs⟩], [], [], [.ref t0], none, none, rfl, rfl, upd_same, D3, .cons (s3 _ _ upd_same) hk pD pW (s03 _ _ hL.at_) hL.all hf .nil, .nil, List.nodup_nil, (fun z => nomatch z), (fun z => nomatch z), by simp [jvecs], (by show 0 + (k.sz + 0) ≤ k.sz; omega), s03⟩, ?_⟩
  rintro n σ H' ⟨js, done, qs, r, x4, x5, rfl, rfl, hW', hD', hJ, hR, hnd, nD, nW, hlin, hbd, hold⟩
  have rl := hJ.len
  have jl := len_jsz js
  have ql := hR.len
  have dl : qs.length = done.length := by rw [ql]; exact List.length_map _
  refine ⟨_, rfl, _, .inl ⟨_, SqL.of hW', rfl⟩, ?_⟩
  match js, r, hJ with
  | [], _, .nil =>
    refine ifF rfl ?_
    have hlin' : done = vecs k xs := by simpa [jvecs] using hlin
    rw [hlin'] at hR
    obtain ⟨hA, hn⟩ := rows_all hR
    refine ⟨_, rfl, q H' D qs hold ⟨hD', hA⟩ (List.nodup_cons.mpr ⟨nD, hnd⟩) fun b m => ?_⟩
    rcases List.mem_cons.mp m with m | m
    · rw [m]; exact hD
    · exact hn b m
  | j0 :: js, _, @Jobs.cons _ _ _ _ _ t ln kv0 us0 ass0 _ r ht hk0 nlD nlW hln hA0 hf0 hJ =>
    rw [List.reverse_cons] at hW'
    rw [jsz_cons] at hbd
    simp only [List.length_cons] at rl jl
    rw [jsz_cons] at jl
    have k0p := sz_pos j0.k
    refine ifT (by rw [List.reverse_cons]; cases r.reverse <;> rfl) ?_
    refine ⟨fun σ2 H2 => ∃ (js2 : List Job) (done2 : List (List Int)) (qs2 : List Addr) (r2 : List V) (x4 x5 : Option V), σ2 = [some kv, some (.ref p), some (.ref D), some (.ref W), x4, x5, none, none, none, none, none] ∧ jsz js2 < jsz (j0 :: js) ∧ H2 W = some (.lst r2.reverse) ∧ H2 D = some (.lst (qs2.map V.ref)) ∧ Jobs H H2 D W js2 r2 ∧ Rows H H2 qs2 (rows done2) ∧ qs2.Nodup ∧ D ∉ qs2 ∧ W ∉ qs2 ∧ done2 ++ jvecs js2 = vecs k xs ∧ done2.length + jsz js2 ≤ k.sz ∧ Same H H2, ?_, ?_⟩
    · rintro σ2 H2 ⟨js2, done2, qs2, r2, x4, x5, e1, lt, rest⟩
      exact ⟨jsz js2, lt, js2, done2, qs2, r2, x4, x5, e1, rfl, rest⟩
    refine ⟨_, rfl, .inl ⟨rfl, _, SqL.of hW'⟩, W, _, .ref t, rfl, rfl, hW', ?_, ?_⟩
    · rw [List.length_append]; simp
    rw [List.dropLast_concat]
    have t2 : Kt H' (upd H' W (.lst r.reverse)) := fun b xs e => by rw [upd_ne (fun z => by rw [z, hW'] at e; cases e)]; exact e
    have D2 : (upd H' W (.lst r.reverse)) D = some (.lst (qs.map V.ref)) := by rw [upd_ne ne1]; exact hD'
    have W2 : (upd H' W (.lst r.reverse)) W = some (.lst r.reverse) := upd_same
    have f2 : ∀ b o, b ≠ D → b ≠ W → H' b = some o → (upd H' W (.lst r.reverse)) b = some o := fun b o _ n2 e => by rw [upd_ne n2]; exact e
    have old2 : Same H (upd H' W (.lst r.reverse)) := fun b o e => by rw [upd_ne (ref_ne2 e W0)]; exact hold b o e
    have J2 := hJ.keep t2 f2
    have R2 := hR.keep (H' := upd H' W (.lst r.reverse)) fun b m o e => by rw [upd_ne (fun z => nW (by rw [← z]; exact m))]; exact e
    have ht2 := t2 _ _ ht
    have ln2 := f2 _ _ nlD nlW hln
    generalize upd H' W (.lst r.reverse) = H2 at D2 W2 old2 J2 R2 ht2 ln2
    refine ⟨t, _, rfl, .inl (.inl ht2), rfl, _, _, rfl, _, _, rfl, rfl, ?_⟩
    have hl0 := hA0.len.1
    have hm0 := hf0.len
    obtain ⟨k0, vs0⟩ := j0
    have hbd' : done.length + (k0.sz + jsz js) ≤ k.sz := hbd
    have hlin' : done ++ (vecs k0 vs0 ++ jvecs js) = vecs k xs := by rw [← hlin]; rfl
    have hl0' : us0.length = vs0.length := hl0
    have hm0' : vs0.length ≤ 1000 := hm0
    match k0, vs0, hk0, hA0, hf0, hbd', hlin', hl0', hm0' with
    | .num, vs0, ⟨kp, e, hp⟩, hA0, hf0, hbd', hlin', hl0', hm0' =>
      subst e
      have hp2 := old2 _ _ hp
      refine ⟨_, rfl, kp, _, _, _, rfl, rfl, SqT.of hp2, atI_nat (j := 0) rfl, "num", rfl, ?_⟩
      refine ifY (by decide +kernel) ?_
      refine ⟨_, rfl, .inl ⟨rfl, _, SqL.of D2⟩, _, rfl, ln, us0, rfl, .inl (SqL.of ln2), fun l hl => ?_⟩
      have sl := same_new hl (.lst us0)
      have nDl : D ≠ l := ref_ne2 D2 hl
      have nWl : W ≠ l := ref_ne2 W2 hl
      refine ⟨D, _, _, rfl, rfl, sl _ _ D2, by rw [List.length_map]; exact small1000 (by omega), ?_⟩
      have hl0H : H l = none := free_back old2 hl
      have eus := (ints_all3 hA0).1
      refine ⟨js, done ++ [vs0.map int], qs ++ [l], r, _, _, rfl, by rw [jsz_cons]; show jsz js < 1 + jsz js; omega, ?_, ?_, ?_, ?_, ?_, ?_, ?_, ?_, ?_, fun b o e => ?_⟩
      · rw [upd_ne ne1.symm]; exact sl _ _ W2
      · rw [List.map_append]; exact upd_same
      · refine J2.keep (fun b ys e => ?_) fun b o n1 n2 e => ?_
        · rw [upd_ne (fun z => by rw [z, D2] at e; cases e)]; exact sl _ _ e
        · rw [upd_ne n1]; exact sl _ _ e
      · have e : rows (done ++ [vs0.map int]) = rows done ++ [(vs0.map int).map V.int] := by simp [rows]
        rw [e]
        refine (R2.keep fun b m o e => ?_).snoc hl0H ?_
        · rw [upd_ne (fun z => nD (by rw [← z]; exact m))]; exact sl _ _ e
        · rw [upd_ne nDl.symm, upd_same, eus]
      · refine List.nodup_append.mpr ⟨hnd, by simp, fun c m d m' z => ?_⟩
        rw [List.mem_singleton.mp m'] at z
        obtain ⟨_, _, e⟩ := R2.mem c m
        rw [z, hl] at e; cases e
      · intro m
        rcases List.mem_append.mp m with m | m
        · exact nD m
        · exact nDl (List.mem_singleton.mp m)
      · intro m
        rcases List.mem_append.mp m with m | m
        · exact nW m
        · exact nWl (List.mem_singleton.mp m)
      · rw [← hlin', List.append_assoc]; rfl
      · rw [List.length_append, List.length_singleton]
        have : Kd.num.sz = 1 := rfl
        omega
      · rw [upd_ne (ref_ne2 e hD)]; exact sl _ _ (old2 _ _ e)
    | .pair k1 k2, vs0, ⟨kp, u1, u2, e, hp, h1, h2⟩, hA0, hf0, hbd', hlin', hl0', hm0' =>
      subst e
      have hp2 := old2 _ _ hp
      refine ⟨_, rfl, kp, _, _, _, rfl, rfl, SqT.of hp2, atI_nat (j := 0) rfl, "pair", rfl, ?_⟩
      refine ifN (by decide +kernel) ?_
      refine ⟨"pair", rfl, ?_⟩
      refine ifY (by decide +kernel) ?_
      refine ⟨_, rfl, .inl ⟨rfl, _, SqL.of W2⟩, _, rfl, kp, _, _, _, rfl, rfl, SqT.of hp2, atI_nat (j := 2) rfl, ?_⟩
      refine ⟨_, rfl, ln, rfl, ⟨_, SqL.of ln2⟩, fun L hL2 => lc_list (K := K) (a := ln) (xs := us0) (fun i H3 => ∃ (acc : List V) (bss : List (List Addr)), H3 = upd H2 L (.lst acc) ∧ acc.length = i ∧ All3 (VAt H k2) ((vs0.take i).map fun xy => xy.2) acc bss) ⟨[], [], rfl, rfl, by rw [List.take_zero]; exact .nil⟩ (fun i H3 _ h => by obtain ⟨_, _, rfl, _⟩ := h; exact SqL.of (same_new hL2 _ _ _ ln2)) ?_ ?_⟩
      · rintro i y H3 hy ⟨acc, bss, rfl, hl, hA⟩
        have hi : i < us0.length := (List.getElem?_eq_some_iff.mp hy).1
        obtain ⟨xy, tp, w1, w2, as1, as2, ex, rfl, htp, a1, a2⟩ := pairs_get hA0 hy
        refine ⟨tp, _, rfl, SqT.of (same_new hL2 _ _ _ (old2 _ _ htp)), rfl, _, _, rfl, _, _, rfl, rfl, rfl, _, rfl, _, upd_same, small1000 (by omega), acc ++ [w2], bss ++ [as2], by rw [upd_upd], by rw [List.length_append, hl]; rfl, ?_⟩
        rw [take_map_snoc _ ex]
        exact hA.app (.one a2)
      rintro H3 ⟨acc2, bss2, rfl, hl2, hA2⟩
      rw [hl0', List.take_length] at hA2
      have sL := same_new hL2 (.lst acc2)
      refine ⟨(by show 2 ≤ sizeLine; decide), fun t2' ht2' => ?_⟩
      have st := same_new ht2' (.tup [u2, V.ref L])
      have s23 := sL.trans st
      have W3 := s23 _ _ W2
      have D3' := s23 _ _ D2
      have L3 := st _ _ (upd_same (H := H2) (a := L) (o := .lst acc2))
      have T3 := upd_same (H := upd H2 L (.lst acc2)) (a := t2') (o := .tup [u2, V.ref L])
      have nLD : L ≠ D := ref_ne hL2 D2
      have nLW : L ≠ W := ref_ne hL2 W2
      have nTD : t2' ≠ D := ref_ne ht2' (sL _ _ D2)
      have nTW : t2' ≠ W := ref_ne ht2' (sL _ _ W2)
      refine ⟨W, _, _, rfl, rfl, W3, by rw [List.length_reverse]; exact small1000 (by omega), ?_⟩
      generalize upd (upd H2 L (.lst acc2)) t2' (.tup [u2, V.ref L]) = H3 at s23 W3 D3' L3 T3
      -- the first parts
      have t4 : Kt H3 (upd H3 W (.lst (r.reverse ++ [V.ref t2']))) := fun b xs e => by rw [upd_ne (fun z => by rw [z, W3] at e; cases e)]; exact e
      have W4 : (upd H3 W (.lst (r.reverse ++ [V.ref t2']))) W = some (.lst (r.reverse ++ [V.ref t2'])) := upd_same
      have f4 : ∀ b o, b ≠ W → H3 b = some o → (upd H3 W (.lst (r.reverse ++ [V.ref t2']))) b = some o := fun b o n e => by rw [upd_ne n]; exact e
      generalize upd H3 W (.lst (r.reverse ++ [V.ref t2'])) = H4 at t4 W4 f4
      have old4 : Same H H4 := fun b o e => f4 b o (ref_ne2 e W0) (s23 _ _ (old2 _ _ e))
      have ln4 : H4 ln = some (.lst us0) := f4 _ _ nlW (s23 _ _ ln2)
      refine ⟨_, rfl, .inl ⟨rfl, _, SqL.of W4⟩, _, rfl, kp, _, _, _, rfl, rfl, SqT.of (old4 _ _ hp), atI_nat (j := 1) rfl, ?_⟩
      refine ⟨_, rfl, ln, rfl, ⟨_, SqL.of ln4⟩, fun M hM => lc_list (K := K) (a := ln) (xs := us0) (fun i H5 => ∃ (acc : List V) (bss : List (List Addr)), H5 = upd H4 M (.lst acc) ∧ acc.length = i ∧ All3 (VAt H k1) ((vs0.take i).map fun xy => xy.1) acc bss) ⟨[], [], rfl, rfl, by rw [List.take_zero]; exact .nil⟩ (fun i H3 _ h => by obtain ⟨_, _, rfl, _⟩ := h; exact SqL.of (same_new hM _ _ _ ln4)) ?_ ?_⟩
      · rintro i y H5 hy ⟨acc, bss, rfl, hl, hA⟩
        have hi : i < us0.length := (List.getElem?_eq_some_iff.mp hy).1
        obtain ⟨xy, tp, w1, w2, as1, as2, ex, rfl, htp, a1, a2⟩ := pairs_get hA0 hy
        refine ⟨tp, _, rfl, SqT.of (same_new hM _ _ _ (old4 _ _ htp)), rfl, _, _, rfl, _, _, rfl, rfl, rfl, _, rfl, _, upd_same, small1000 (by omega), acc ++ [w1], bss ++ [as1], by rw [upd_upd], by rw [List.length_append, hl]; rfl, ?_⟩
        rw [take_map_snoc _ ex]
        exact hA.app (.one a1)
      rintro H5 ⟨acc1, bss1, rfl, hl1, hA1⟩
      rw [hl0', List.take_length] at hA1
      have sM := same_new hM (.lst acc1)
      refine ⟨(by show 2 ≤ sizeLine; decide), fun t1 ht1 => ?_⟩
      have su := same_new ht1 (.tup [u1, V.ref M])
      have s45 := sM.trans su
      have W5 := s45 _ _ W4
      have M5 := su _ _ (upd_same (H := H4) (a := M) (o := .lst acc1))
      have T5 := upd_same (H := upd H4 M (.lst acc1)) (a := t1) (o := .tup [u1, V.ref M])
      have D4 := f4 _ _ ne1 D3'
      have nMD : M ≠ D := ref_ne hM D4
      have nMW : M ≠ W := ref_ne hM W4
      refine ⟨W, _, _, rfl, rfl, W5, by rw [List.length_append, List.length_reverse, List.length_singleton]; exact small1000 (by omega), ?_⟩
      generalize upd (upd H4 M (.lst acc1)) t1 (.tup [u1, V.ref M]) = H5 at s45 W5 M5 T5
      have z0 : (Kd.pair k1 k2).sz = k1.sz + k2.sz + 1 := rfl
      have f6 : ∀ b o, b ≠ W → H5 b = some o → (upd H5 W (.lst (r.reverse ++ [V.ref t2'] ++ [V.ref t1]))) b = some o := fun b o n e => by rw [upd_ne n]; exact e
      have t6 : Kt H5 (upd H5 W (.lst (r.reverse ++ [V.ref t2'] ++ [V.ref t1]))) := fun b xs e => f6 b _ (fun z => by rw [z, W5] at e; cases e) e
      refine ⟨⟨k1, vs0.map fun xy => xy.1⟩ :: ⟨k2, vs0.map fun xy => xy.2⟩ :: js, done, qs, .ref t1 :: .ref t2' :: r, _, _, rfl, by rw [jsz_cons, jsz_cons, jsz_cons]; show k1.sz + (k2.sz + jsz js) < (Kd.pair k1 k2).sz + jsz js; omega, ?_, ?_, .cons (t6 _ _ T5) h1 nMD nMW (f6 _ _ nMW M5) hA1 hf0.2.1 (.cons (t6 _ _ (s45 _ _ (f4 _ _ nTW T3))) h2 nLD nLW (f6 _ _ nLW (s45 _ _ (f4 _ _ nLW L3))) hA2 hf0.2.2 ?_), ?_, hnd, nD, nW, ?_, ?_, fun b o e => f6 _ _ (ref_ne2 e W0) (s45 _ _ (old4 _ _ e))⟩
      · rw [List.reverse_cons, List.reverse_cons]; exact upd_same
      · exact f6 _ _ ne1 (s45 _ _ D4)
      · exact J2.keep (fun b ys e => t6 _ _ (s45 _ _ (t4 _ _ (s23 _ _ e)))) fun b o n1 n2 e => f6 _ _ n2 (s45 _ _ (f4 _ _ n2 (s23 _ _ e)))
      · exact R2.keep fun b m o e => by
          have n2 : b ≠ W := fun z => nW (by rw [← z]; exact m)
          exact f6 _ _ n2 (s45 _ _ (f4 _ _ n2 (s23 _ _ e)))
      · rw [← hlin']
        show done ++ (vecs k1 _ ++ (vecs k2 _ ++ jvecs js)) = done ++ ((vecs k1 _ ++ vecs k2 _) ++ jvecs js)
        rw [List.append_assoc]
      · show done.length + (k1.sz + (k2.sz + jsz js)) ≤ k.sz
        omega
    | .seq k1, vs0, ⟨kp, u1, e, hp, h1⟩, hA0, hf0, hbd', hlin', hl0', hm0' =>
      subst e
      have hp2 := old2 _ _ hp
      refine ⟨_, rfl, kp, _, _, _, rfl, rfl, SqT.of hp2, atI_nat (j := 0) rfl, "seq", rfl, ?_⟩
      refine ifN (by decide +kernel) ?_
      refine ⟨"seq", rfl, ?_⟩
      refine ifN (by decide +kernel) ?_
      refine ⟨_, rfl, .inl ⟨rfl, _, SqL.of D2⟩, _, rfl, ln, rfl, ⟨_, SqL.of ln2⟩, fun L hL2 => lc_list (K := K) (a := ln) (xs := us0) (fun i H3 => H3 = upd H2 L (.lst (((vs0.take i).map fun ys => (((lst ys).length : Nat) : Int)).map V.int))) (by rw [List.take_zero]; rfl) (fun i H3 _ h => by rw [h]; exact SqL.of (same_new hL2 _ _ _ ln2)) ?_ ?_⟩
      · rintro i y H3 hy rfl
        have hi : i < us0.length := (List.getElem?_eq_some_iff.mp hy).1
        obtain ⟨ys, as, ex, _, q1, ws, css, rfl, hq1, hB, _⟩ := hA0.get hy
        refine ⟨rfl, _, rfl, q1, ws, rfl, .inl (SqL.of (same_new hL2 _ _ _ (old2 _ _ hq1))), _, upd_same, ?_, ?_⟩
        · rw [List.length_map, List.length_map, List.length_take]; exact small1000 (by omega)
        · have lb' : ws.length = (lst ys).length := hB.len.1
          rw [upd_upd, take_map_snoc _ ex, List.map_append, lb']
          rfl
      rintro H3 rfl
      rw [hl0', List.take_length]
      have sL := same_new hL2 (.lst ((vs0.map fun ys => (((lst ys).length : Nat) : Int)).map V.int))
      have nLD : L ≠ D := ref_ne hL2 D2
      have nLW : L ≠ W := ref_ne hL2 W2
      refine ⟨D, _, _, rfl, rfl, sL _ _ D2, by rw [List.length_map]; exact small1000 (by omega), ?_⟩
      have LD := upd_same (H := H2) (a := L) (o := .lst ((vs0.map fun ys => (((lst ys).length : Nat) : Int)).map V.int))
      have L0 : H L = none := free_back old2 hL2
      have sD2 := sL _ _ D2
      have f4 : ∀ b o, b ≠ D → H2 b = some o → (upd (upd H2 L (.lst ((vs0.map fun ys => (((lst ys).length : Nat) : Int)).map V.int))) D (.lst (qs.map V.ref ++ [V.ref L]))) b = some o := fun b o n e => by rw [upd_ne n]; exact sL _ _ e
      have t4 : Kt H2 (upd (upd H2 L (.lst ((vs0.map fun ys => (((lst ys).length : Nat) : Int)).map V.int))) D (.lst (qs.map V.ref ++ [V.ref L]))) := fun b xs e => f4 b _ (fun z => by rw [z, D2] at e; cases e) e
      have D4 : (upd (upd H2 L (.lst ((vs0.map fun ys => (((lst ys).length : Nat) : Int)).map V.int))) D (.lst (qs.map V.ref ++ [V.ref L]))) D = some (.lst (qs.map V.ref ++ [V.ref L])) := upd_same
      have L4 : (upd (upd H2 L (.lst ((vs0.map fun ys => (((lst ys).length : Nat) : Int)).map V.int))) D (.lst (qs.map V.ref ++ [V.ref L]))) L = some (.lst ((vs0.map fun ys => (((lst ys).length : Nat) : Int)).map V.int)) := by rw [upd_ne nLD]; exact upd_same
      generalize upd (upd H2 L (.lst ((vs0.map fun ys => (((lst ys).length : Nat) : Int)).map V.int))) D (.lst (qs.map V.ref ++ [V.ref L])) = H4 at f4 t4 D4 L4
      have old4 : Same H H4 := fun b o e => f4 b o (ref_ne2 e hD) (old2 _ _ e)
      have W4 := f4 _ _ ne1.symm W2
      have ln4 := f4 _ _ nlD ln2
      have fl : ∀ i, i ≤ vs0.length → ((vs0.take i).map lst).flatten.length ≤ 1000 := fun i hi => by
        have e : vs0.map lst = (vs0.take i).map lst ++ (vs0.drop i).map lst := by rw [← List.map_append, List.take_append_drop]
        have h2 := hf0.2.len
        rw [e, List.flatten_append, List.length_append] at h2
        omega
      refine ⟨_, rfl, .inl ⟨rfl, _, SqL.of W4⟩, _, rfl, kp, _, _, _, rfl, rfl, SqT.of (old4 _ _ hp), atI_nat (j := 1) rfl, ?_⟩
      refine ⟨_, rfl, ln, rfl, ⟨_, SqL.of ln4⟩, fun M hM => ?_⟩
      refine walk_body (K := K) (a := ln) (xs := us0) (fun i H5 => ∃ (acc : List V) (bss : List (List Addr)), H5 = upd H4 M (.lst acc) ∧ All3 (VAt H k1) ((vs0.take i).map lst).flatten acc bss) ⟨[], [], rfl, by rw [List.take_zero]; exact .nil⟩ (fun i H5 _ h => by obtain ⟨_, _, rfl, _⟩ := h; exact SqL.of (same_new hM _ _ _ ln4)) ?_ ?_
      · rintro i y H5 hy ⟨acc, bss, rfl, hA⟩
        have hi : i < us0.length := (List.getElem?_eq_some_iff.mp hy).1
        obtain ⟨ys, as, ex, _, q1, ws, css, rfl, hq1, hB, _⟩ := hA0.get hy
        have e := take_map_snoc lst ex
        have tot := fl (i + 1) (by omega)
        rw [e, List.flatten_append, List.length_append] at tot
        have e1 : ([lst ys] : List (List (Val k1))).flatten = lst ys := by simp
        rw [e1] at tot
        have la := hA.len.1
        have lb : ws.length = (lst ys).length := hB.len.1
        have tot' : acc.length + ws.length ≤ 1000 := by rw [la, lb]; exact tot
        have q4 := old4 _ _ hq1
        refine ⟨rfl, _, rfl, q1, rfl, ⟨_, SqL.of (same_new hM _ _ _ q4)⟩, ?_⟩
        refine walk_body (K := K) (a := q1) (xs := ws) (fun j H6 => H6 = upd H4 M (.lst (acc ++ ws.take j))) (by rw [List.take_zero, List.append_nil]) (fun j H6 _ h => by rw [h]; exact SqL.of (same_new hM _ _ _ q4)) ?_ ?_
        · rintro j z H6 hz rfl
          have hj : j < ws.length := (List.getElem?_eq_some_iff.mp hz).1
          refine ⟨rfl, _, rfl, _, upd_same, ?_, ?_⟩
          · rw [List.length_append, List.length_take]; exact small1000 (by omega)
          · rw [upd_upd, take_snoc hz, List.append_assoc]
        · rintro H6 rfl
          rw [List.take_length]
          refine ⟨acc ++ ws, bss ++ css, rfl, ?_⟩
          rw [e, List.flatten_append, e1]
          exact hA.app hB
      rintro H5 ⟨acc, bss, rfl, hA⟩
      rw [hl0', List.take_length] at hA
      have sM := same_new hM (.lst acc)
      refine ⟨(by show 2 ≤ sizeLine; decide), fun t1 ht1 => ?_⟩
      have su := same_new ht1 (.tup [u1, V.ref M])
      have s45 := sM.trans su
      have W5 := s45 _ _ W4
      have M5 := su _ _ (upd_same (H := H4) (a := M) (o := .lst acc))
      have T5 := upd_same (H := upd H4 M (.lst acc)) (a := t1) (o := .tup [u1, V.ref M])
      have nMD : M ≠ D := ref_ne hM D4
      have nMW : M ≠ W := ref_ne hM W4
      refine ⟨W, _, _, rfl, rfl, W5, by rw [List.length_reverse]; exact small1000 (by omega), ?_⟩
      generalize upd (upd H4 M (.lst acc)) t1 (.tup [u1, V.ref M]) = H5 at s45 W5 M5 T5
      have z0 : (Kd.seq k1).sz = k1.sz + 1 := rfl
      have f6 : ∀ b o, b ≠ W → H5 b = some o → (upd H5 W (.lst (r.reverse ++ [V.ref t1]))) b = some o := fun b o n e => by rw [upd_ne n]; exact e
      have t6 : Kt H5 (upd H5 W (.lst (r.reverse ++ [V.ref t1]))) := fun b xs e => f6 b _ (fun z => by rw [z, W5] at e; cases e) e
      refine ⟨⟨k1, (vs0.map lst).flatten⟩ :: js, done ++ [vs0.map fun ys => (((lst ys).length : Nat) : Int)], qs ++ [L], .ref t1 :: r, _, _, rfl, by rw [jsz_cons, jsz_cons]; show k1.sz + jsz js < (Kd.seq k1).sz + jsz js; omega, ?_, ?_, .cons (t6 _ _ T5) h1 nMD nMW (f6 _ _ nMW M5) hA hf0.2 ?_, ?_, ?_, ?_, ?_, ?_, ?_, fun b o e => f6 _ _ (ref_ne2 e W0) (s45 _ _ (old4 _ _ e))⟩
      · rw [List.reverse_cons]; exact upd_same
      · rw [List.map_append]; exact f6 _ _ ne1 (s45 _ _ D4)
      · exact J2.keep (fun b ys e => t6 _ _ (s45 _ _ (t4 _ _ e))) fun b o n1 n2 e => f6 _ _ n2 (s45 _ _ (f4 _ _ n1 e))
      · have e : rows (done ++ [vs0.map fun ys => (((lst ys).length : Nat) : Int)]) = rows done ++ [(vs0.map fun ys => (((lst ys).length : Nat) : Int)).map V.int] := by simp [rows]
        rw [e]
        refine (R2.keep fun b m o e => ?_).snoc L0 ?_
        · exact f6 _ _ (fun z => nW (by rw [← z]; exact m)) (s45 _ _ (f4 _ _ (fun z => nD (by rw [← z]; exact m)) e))
        · exact f6 _ _ nLW (s45 _ _ L4)
      · refine List.nodup_append.mpr ⟨hnd, by simp, fun c m d m' z => ?_⟩
        rw [List.mem_singleton.mp m'] at z
        obtain ⟨_, _, e⟩ := R2.mem c m
        rw [z, hL2] at e; cases e
      · intro m
        rcases List.mem_append.mp m with m | m
        · exact nD m
        · exact nLD (List.mem_singleton.mp m).symm
      · intro m
        rcases List.mem_append.mp m with m | m
        · exact nW m
        · exact nLW (List.mem_singleton.mp m).symm
      · rw [← hlin', List.append_assoc]; rfl
      · rw [List.length_append, List.length_singleton]
        show done.length + 1 + (k1.sz + jsz js) ≤ k.sz
        omega
end
end K5

namespace K5
open PySem PySem.Spec PyProof.Rows L2 KV
/-! ### the values that vectors hold -/
def step (w : Str) (rest : List (List Int)) (done : List Job) : Option (List (List Int) × List Job) :=
  if w = "num" then match rest with
    | v :: rest => some (rest, ⟨.num, v⟩ :: done)
    | [] => none
  else if w = "pair" then match done with
    | ⟨k, as⟩ :: ⟨l, bs⟩ :: d => if as.length = bs.length then some (rest, ⟨.pair k l, as.zip bs⟩ :: d) else none
    | _ => none
  else if w = "seq" then match done, rest with
    | ⟨k, xs⟩ :: d, v :: rest => if v = (v.map Int.toNat).map (fun (n : Nat) => (n : Int)) ∧ nsum (v.map Int.toNat) = xs.length then some (rest, ⟨.seq k, chunks (v.map Int.toNat) xs⟩ :: d) else none
    | _, _ => none
  else none
def run : List Str → List (List Int) → List Job → Option (List (List Int) × List Job)
  | [], rest, done => some (rest, done)
  | w :: ws, rest, done => match step w rest done with
    | some (r, d) => run ws r d
    | none => none
theorem run_step {w : Str} {ws : List Str} {rest rest' : List (List Int)} {done done' : List Job} (h : step w rest done = some (rest', done')) : run (w :: ws) rest done = run ws rest' done' := by
  show (match step w rest done with | some (r, d) => run ws r d | none => none) = _
  rw [h]
theorem zip_back {k l : Kd} (xs : List (Val (.pair k l))) : (xs.map fun xy => xy.1).zip (xs.map fun xy => xy.2) = xs := by
  induction xs with
  | nil => rfl
  | cons x r ih =>
    rw [List.map_cons, List.map_cons, List.zip_cons_cons, ih]
    rfl
theorem nsum_lens {α : Type} (xss : List (List α)) : nsum (xss.map List.length) = xss.flatten.length := by
  induction xss with
  | nil => rfl
  | cons x r ih => rw [List.map_cons, List.flatten_cons, List.length_append, nsum, ih]
theorem chunks_back {α : Type} (xss : List (List α)) : chunks (xss.map List.length) xss.flatten = xss := by
  induction xss with
  | nil => rfl
  | cons x r ih =>
    rw [List.map_cons, List.flatten_cons, chunks, List.take_left, List.drop_left, ih]
theorem run_forms : ∀ (k : Kd) (xs : List (Val k)) (ws : List Str) (rest : List (List Int)) (done : List Job), run ((forms k).reverse ++ ws) ((vecs k xs).reverse ++ rest) done = run ws rest (⟨k, xs⟩ :: done)
  | .num, xs, ws, rest, done => by
    have e : (xs.map int : List Int) = (xs : List Int) := List.map_id xs
    show run ("num" :: ws) ((xs.map int : List Int) :: rest) done = _
    rw [e]
    exact run_step (by unfold step; rw [if_pos rfl])
  | .pair a b, xs, ws, rest, done => by
    have e1 : (forms (.pair a b)).reverse ++ ws = (forms b).reverse ++ ((forms a).reverse ++ (("pair" : Str) :: ws)) := by simp [forms]
    have e2 : (vecs (.pair a b) xs).reverse ++ rest = (vecs b (xs.map fun xy => xy.2)).reverse ++ ((vecs a (xs.map fun xy => xy.1)).reverse ++ rest) := by simp [vecs]
    rw [e1, e2, run_forms b, run_forms a]
    refine run_step ?_
    unfold step
    rw [if_neg (by decide +kernel), if_pos rfl]
    show (if (xs.map fun xy => xy.1).length = (xs.map fun xy => xy.2).length then _ else none) = _
    rw [if_pos (by rw [List.length_map, List.length_map]), zip_back]
  | .seq a, xs, ws, rest, done => by
    have e1 : (forms (.seq a)).reverse ++ ws = (forms a).reverse ++ (("seq" : Str) :: ws) := by simp [forms]
    have e2 : (vecs (.seq a) xs).reverse ++ rest = (vecs a (xs.map lst).flatten).reverse ++ ((xs.map fun ys => (((lst ys).length : Nat) : Int)) :: rest) := by simp [vecs]
    rw [e1, e2, run_forms a]
    refine run_step ?_
    have e3 : (xs.map fun ys => (((lst ys).length : Nat) : Int)).map Int.toNat = (xs.map lst).map List.length := by
      rw [List.map_map, List.map_map]
      exact List.map_congr_left fun y _ => Int.toNat_natCast _
    unfold step
    rw [if_neg (by decide +kernel), if_neg (by decide +kernel), if_pos rfl]
    show (if _ ∧ nsum ((xs.map fun ys => (((lst ys).length : Nat) : Int)).map Int.toNat) = (xs.map lst).flatten.length then some (rest, (⟨.seq a, chunks ((xs.map fun ys => (((lst ys).length : Nat) : Int)).map Int.toNat) (xs.map lst).flatten⟩ : Job) :: done) else none) = _
    rw [e3, if_pos ⟨by rw [List.map_map, List.map_map]; rfl, nsum_lens _⟩, chunks_back]
    exact congrArg (fun z : List (Val (.seq a)) => some (rest, (⟨.seq a, z⟩ : Job) :: done)) (List.map_id xs)
theorem vecs_len {M : Nat} : ∀ (k : Kd) (xs : List (Val k)), fits M k xs → ∀ v ∈ vecs k xs, v.length ≤ M
  | .num, xs, h, v, m => by
    rw [List.mem_singleton.mp m, List.length_map]; exact h
  | .pair a b, xs, h, v, m => by
    rcases List.mem_append.mp m with m | m
    · exact vecs_len a _ h.2.1 v m
    · exact vecs_len b _ h.2.2 v m
  | .seq a, xs, h, v, m => by
    rcases List.mem_cons.mp m with m | m
    · rw [m, List.length_map]; exact h.1
    · exact vecs_len a _ h.2 v m
/-- lanes that are made: their lists, and those of their values -/
inductive Lanes (H : Hp) : List Job → List V → List Addr → Prop
  | nil : Lanes H [] [] []
  | cons {j : Job} {ln : Addr} {us : List V} {ass : List (List Addr)} {js : List Job} {ts : List V} {as : List Addr} : H ln = some (.lst us) → All3 (VAt H j.k) j.vs us ass → Lanes H js ts as → Lanes H (j :: js) (.ref ln :: ts) ((ln :: ass.flatten) ++ as)
theorem all3_keep {H H' : Hp} (t : Kt H H') {k : Kd} {xs : List (Val k)} {us : List V} {ass : List (List Addr)} (h : All3 (VAt H k) xs us ass) (f : ∀ b ∈ ass.flatten, ∀ o, H b = some o → H' b = some o) : All3 (VAt H' k) xs us ass :=
  h.imp fun x u as m r => r.keep t fun b mb => f b (List.mem_flatten.mpr ⟨as, m, mb⟩)
theorem Lanes.keep {H H' : Hp} (t : Kt H H') {js : List Job} {ts : List V} {as : List Addr} (h : Lanes H js ts as) (f : ∀ b ∈ as, ∀ o, H b = some o → H' b = some o) : Lanes H' js ts as := by
  induction h with
  | nil => exact .nil
  | cons a b _ ih =>
    refine .cons (f _ (by simp) _ a) (all3_keep t b fun b m => f b (List.mem_append_left _ (List.mem_cons_of_mem _ m))) (ih fun b m => f b (List.mem_append_right _ m))
theorem Lanes.len {H : Hp} {js : List Job} {ts : List V} {as : List Addr} (h : Lanes H js ts as) : ts.length = js.length := by
  induction h with
  | nil => rfl
  | cons _ _ _ ih => rw [List.length_cons, List.length_cons, ih]
theorem Lanes.there {H : Hp} {js : List Job} {ts : List V} {as : List Addr} (h : Lanes H js ts as) : ∀ b ∈ as, ∃ o, H b = some o := by
  induction h with
  | nil => intro b m; cases m
  | @cons j ln us ass js ts as a b _ ih =>
    intro c m
    rcases List.mem_append.mp m with m | m
    · have hv : VAt H (.seq j.k) j.vs (.ref ln) (ln :: ass.flatten) := ⟨ln, us, ass, rfl, a, b, rfl⟩
      obtain ⟨ws, z⟩ := hv.lists c m
      exact ⟨_, z⟩
    · exact ih c m
theorem zip_all {H : Hp} {k l : Kd} {xs : List (Val k)} {us : List V} {ass : List (List Addr)} (h : All3 (VAt H k) xs us ass) : ∀ {ys : List (Val l)} {ws : List V} {bss : List (List Addr)} {ts : List Addr}, All3 (VAt H l) ys ws bss → xs.length = ys.length → ts.length = xs.length →
    (∀ (j : Nat) (t : Addr), ts[j]? = some t → ∃ x y, us[j]? = some x ∧ ws[j]? = some y ∧ H t = some (.tup [x, y])) → All3 (VAt H (.pair k l)) (xs.zip ys) (ts.map V.ref) (List.zipWith (· ++ ·) ass bss) := by
  induction h with
  | nil =>
    intro ys ws bss ts g e1 e2 f
    cases ts with
    | nil => exact .nil
    | cons _ _ => simp at e2
  | cons a _ ih =>
    intro ys ws bss ts g e1 e2 f
    cases g with
    | nil => simp at e1
    | cons b g =>
      cases ts with
      | nil => simp at e2
      | cons t ts =>
        obtain ⟨x, y, q1, q2, q3⟩ := f 0 t rfl
        cases q1
        cases q2
        exact .cons ⟨t, _, _, _, _, rfl, q3, a, b, rfl⟩ (ih g (by simpa using e1) (by simpa using e2) fun j t e => f (j + 1) t e)
theorem zip_perm : ∀ (ass bss : List (List Addr)), ass.length = bss.length → ((List.zipWith (· ++ ·) ass bss).flatten).Perm (ass.flatten ++ bss.flatten)
  | [], [], _ => List.Perm.refl _
  | a :: ass, b :: bss, h => by
    have ih := zip_perm ass bss (by simpa using h)
    rw [List.zipWith_cons_cons, List.flatten_cons, List.flatten_cons, List.flatten_cons, List.append_assoc, List.append_assoc]
    refine List.Perm.append_left a ?_
    refine (List.Perm.append_left b ih).trans ?_
    rw [← List.append_assoc, ← List.append_assoc]
    exact List.Perm.append_right _ List.perm_append_comm
  | [], _ :: _, h => by simp at h
  | _ :: _, [], h => by simp at h
theorem rows_vals {H0 H : Hp} {k : Kd} : ∀ {ns : List Nat} {xs : List (Val k)} {us : List V} {ass : List (List Addr)} {rs : List Addr}, All3 (VAt H k) xs us ass → Rows H0 H rs (chunks ns us) → All3 (VAt H (.seq k)) (chunks ns xs) (rs.map V.ref) (List.zipWith (fun r c => r :: List.flatten c) rs (chunks ns ass))
  | [], _, _, _, rs, _, r => by
    cases r
    exact .nil
  | n :: ns, xs, us, ass, rs, h, r => by
    cases r with
    | cons a b c => exact .cons ⟨_, _, _, rfl, b, h.take n, rfl⟩ (rows_vals (h.drop n) c)
theorem rows_perm : ∀ (rs : List Addr) (css : List (List (List Addr))), rs.length = css.length → ((List.zipWith (fun r c => r :: List.flatten c) rs css).flatten).Perm (rs ++ css.flatten.flatten)
  | [], [], _ => List.Perm.refl _
  | r :: rs, c :: css, h => by
    have ih := rows_perm rs css (by simpa using h)
    rw [List.zipWith_cons_cons, List.flatten_cons, List.flatten_cons, List.flatten_append, List.cons_append, List.cons_append]
    refine List.Perm.cons r ?_
    refine (List.Perm.append_left _ ih).trans ?_
    rw [← List.append_assoc, ← List.append_assoc]
    exact List.Perm.append_right _ List.perm_append_comm
  | [], _ :: _, h => by simp at h
  | _ :: _, [], h => by simp at h
theorem chunks_flat {α : Type} : ∀ (ns : List Nat) (xs : List α), nsum ns = xs.length → (chunks ns xs).flatten = xs
  | [], xs, h => by
    have : xs = [] := List.length_eq_zero_iff.mp h.symm
    rw [this]; rfl
  | n :: ns, xs, h => by
    have e : nsum ns = (xs.drop n).length := by rw [List.length_drop, ← h]; show nsum ns = n + nsum ns - n; omega
    rw [chunks, List.flatten_cons, chunks_flat ns _ e, List.take_append_drop]
end K5

namespace K5
open PySem PySem.Spec PyProof.Rows L2 KV
theorem run_inv {w : Str} {ws : List Str} {rest : List (List Int)} {done : List Job} {z : List (List Int) × List Job} (h : run (w :: ws) rest done = some z) : ∃ r d, step w rest done = some (r, d) ∧ run ws r d = some z := by
  have h' : (match step w rest done with | some (r, d) => run ws r d | none => none) = some z := h
  split at h'
  · rename_i r d e
    exact ⟨r, d, e, h'⟩
  · cases h'
theorem step_num {rest rest' : List (List Int)} {done done' : List Job} (h : step "num" rest done = some (rest', done')) : ∃ v, rest = v :: rest' ∧ done' = ⟨.num, v⟩ :: done := by
  unfold step at h
  rw [if_pos rfl] at h
  cases rest with
  | nil => cases h
  | cons v r => cases h; exact ⟨v, rfl, rfl⟩
theorem step_pair {rest rest' : List (List Int)} {done done' : List Job} (h : step "pair" rest done = some (rest', done')) : ∃ k as l bs d, done = ⟨k, as⟩ :: ⟨l, bs⟩ :: d ∧ as.length = bs.length ∧ rest' = rest ∧ done' = ⟨.pair k l, as.zip bs⟩ :: d := by
  unfold step at h
  rw [if_neg (by decide +kernel), if_pos rfl] at h
  match done, h with
  | ⟨k, as⟩ :: ⟨l, bs⟩ :: d, h =>
    have h' : (if as.length = bs.length then some (rest, (⟨.pair k l, as.zip bs⟩ : Job) :: d) else none) = some (rest', done') := h
    by_cases c : as.length = bs.length
    · rw [if_pos c] at h'
      cases h'
      exact ⟨k, as, l, bs, d, rfl, c, rfl, rfl⟩
    · rw [if_neg c] at h'; cases h'
  | [], h => cases h
  | [_], h => cases h
theorem step_other {w : Str} {rest rest' : List (List Int)} {done done' : List Job} (h : step w rest done = some (rest', done')) (n1 : ¬ w = "num") (n2 : ¬ w = "pair") :
    ∃ k xs d v, done = ⟨k, xs⟩ :: d ∧ rest = v :: rest' ∧ v = (v.map Int.toNat).map (fun (n : Nat) => (n : Int)) ∧ nsum (v.map Int.toNat) = xs.length ∧ done' = ⟨.seq k, chunks (v.map Int.toNat) xs⟩ :: d := by
  unfold step at h
  rw [if_neg n1, if_neg n2] at h
  by_cases c : w = "seq"
  · rw [if_pos c] at h
    match done, rest, h with
    | ⟨k, xs⟩ :: d, v :: r, h =>
      have h' : (if v = (v.map Int.toNat).map (fun (n : Nat) => (n : Int)) ∧ nsum (v.map Int.toNat) = xs.length then some (r, (⟨.seq k, chunks (v.map Int.toNat) xs⟩ : Job) :: d) else none) = some (rest', done') := h
      by_cases c2 : v = (v.map Int.toNat).map (fun (n : Nat) => (n : Int)) ∧ nsum (v.map Int.toNat) = xs.length
      · rw [if_pos c2] at h'
        cases h'
        exact ⟨k, xs, d, v, rfl, rfl, c2.1, c2.2, rfl⟩
      · rw [if_neg c2] at h'; cases h'
    | [], _, h => cases h
    | ⟨_, _⟩ :: _, [], h => cases h
  · rw [if_neg c] at h; cases h
theorem free_of' {H : Hp} {p l : Addr} {o o' : HO} (hp : H p = some o') (hl : (upd H p o) l = none) : H l = none := by
  by_cases e : l = p
  · rw [e, upd_same] at hl; cases hl
  · rw [upd_ne e] at hl; exact hl
theorem last_snoc (xs : List V) (y : V) : (xs ++ [y])[(xs ++ [y]).length - 1]? = some y := by
  rw [List.length_append]; simp
theorem perm_new {new ls old' old : List Addr} (P : new.Perm (ls ++ old')) (S : old'.Sublist old) (n1 : ls.Nodup) (n2 : old.Nodup) (dj : ∀ b ∈ ls, b ∉ old) : new.Nodup ∧ ∀ b ∈ new, b ∈ ls ∨ b ∈ old := by
  refine ⟨P.nodup_iff.mpr (List.nodup_append.mpr ⟨n1, n2.sublist S, fun b m c m' e => dj b m (by rw [e]; exact S.subset m')⟩), fun b m => ?_⟩
  rcases List.mem_append.mp (P.mem_iff.mp m) with m | m
  · exact .inl m
  · exact .inr (S.subset m)
theorem _root_.KV.All3.rev {α : Type} {R : α → V → List Addr → Prop} {xs : List α} {us : List V} {ass : List (List Addr)} (h : All3 R xs us ass) : All3 R xs.reverse us.reverse ass.reverse := by
  induction h with
  | nil => exact .nil
  | cons a _ ih => rw [List.reverse_cons, List.reverse_cons, List.reverse_cons]; exact ih.app (.one a)
section
variable {P : Program} {w : World} {K : PySem.W.Frag} {mg : Str → Option Value} {base : Heap} {a : GAd}
def spBack (k : Kd) : Sp := fun vs H Q _ => ∃ (kv : V) (r : Addr) (xs : List (Val k)) (us : List V) (vss : List (List Addr)), vs = [kv, .ref r] ∧ KdAt H k kv ∧ LnAt H (.seq .num) (vecs k xs) r us vss ∧ fits 1000 k xs ∧ k.sz ≤ 900 ∧
  ∀ (H' : Hp) (v : V) (as : List Addr), Same H H' → VAt H' (.seq k) xs v as → as.Nodup → (∀ b ∈ as, H b = none) → Q v H'
theorem ok_values_of (T : GTxt K mg a) (k : Kd) : FnOk P w K mg base CX0 2 a.values_of.1 a.values_of.2 ["kind", "vectors"] (spBack k) := by
  refine T.values_of.F.ok sc_values_of (fun vs H Q E h => ?_) (fun cdv A outer s H vs Q E hr h => ?_)
  · obtain ⟨_, _, _, _, _, rfl, _⟩ := h
    rfl
  obtain ⟨kv, r0, xs, us0, vss0, rfl, hk, hL, hf, hz, q⟩ := h
  have nd := sc_values_of.nd
  have G_forms_of := ok_forms_of (P := P) (w := w) (base := base) T
  have G_cut := ok_cut (P := P) (w := w) (base := base) T
  refine ⟨_, (pss_cons (ps_set (i := 2) nd rfl (Or.inl rfl) (pe_callTy call_list_of (by rfl) T.list (by decide +kernel) (pa_cons (pv 1) pa_nil)))
  (pss_cons (ps_set (i := 3) nd rfl (Or.inl rfl) (pe_lst pa_nil))
  (pss_cons (ps_for PassesOwn.never rfl (pi_reversed (by rfl) T.reversed (pa_cons (pe_call G_forms_of (hr.mono (by omega)) rfl T.forms_of.g T.forms_of.F.kp T.forms_of.b .nil pass0 (pa_cons (pv 0) pa_nil)) pa_nil)) (pg_name (i := 4) nd rfl (Or.inl rfl)) (pss_one (MX.ps_match (pv 4) (MX.pmc_tx (cs := ["num"]) rfl (pss_one (ps_expr (pe_bm PySem.F.plainAttrs_list PySem.F.slot_list_append PySem.F.type_list_append mt_append (pv 3) (pa_cons (pe_callTy call_list_of (by rfl) T.list (by decide +kernel) (pa_cons (pe_bm0 PySem.F.plainAttrs_list PySem.F.slot_list_pop PySem.F.type_list_pop mt_pop (pv 2)) pa_nil)) pa_nil)))) (MX.pmc_tx (cs := ["pair"]) rfl (pss_cons (ps_set (i := 5) nd rfl (Or.inl rfl) (pe_bm0 PySem.F.plainAttrs_list PySem.F.slot_list_pop PySem.F.type_list_pop mt_pop (pv 3)))
  (pss_cons (ps_set (i := 6) nd rfl (Or.inl rfl) (pe_bm0 PySem.F.plainAttrs_list PySem.F.slot_list_pop PySem.F.type_list_pop mt_pop (pv 3)))
  (pss_one (ps_expr (pe_bm PySem.F.plainAttrs_list PySem.F.slot_list_append PySem.F.type_list_append mt_append (pv 3) (pa_cons (LZ.pe_listzip rfl rfl T.list rfl T.zip (pa_cons (pv 5) (pa_cons (pv 6) pa_nil))) pa_nil)))))) (MX.pmc_any (pss_one (ps_expr (pe_bm PySem.F.plainAttrs_list PySem.F.slot_list_append PySem.F.type_list_append mt_append (pv 3) (pa_cons (pe_call G_cut (hr.mono (by omega)) rfl T.cut.g T.cut.F.kp T.cut.b .nil pass0 (pa_cons (pe_bm0 PySem.F.plainAttrs_list PySem.F.slot_list_pop PySem.F.type_list_pop mt_pop (pv 3)) (pa_cons (pe_bm0 PySem.F.plainAttrs_list PySem.F.slot_list_pop PySem.F.type_list_pop mt_pop (pv 2)) pa_nil))) pa_nil))))))))))
  (pss_one (ps_ret (pe_ix ix_list (pv 3) pe_int (fun _ _ => rfl))))))), ?_⟩
  refine ⟨_, rfl, r0, us0, rfl, .inl (SqL.of hL.at_), fun R hR => ?_⟩
  have s1 := same_new hR (.lst us0)
  refine ⟨(by show 0 ≤ sizeLine; decide), fun Dn hDn => ?_⟩
  have s2 := same_new hDn (.lst [])
  have s02 := s1.trans s2
  have R2 := s2 _ _ (upd_same (H := H) (a := R) (o := .lst us0))
  have D2 := upd_same (H := upd H R (.lst us0)) (a := Dn) (o := .lst [])
  have nRD : R ≠ Dn := ne_of_none (upd_same (H := H) (a := R) (o := .lst us0)) hDn
  have Dn0 : H Dn = none := free_back s1 hDn
  refine ⟨_, rfl, kv, k, rfl, hk.kt (Kt.of s02), hz, fun H3 fo s3 hfo0 hfo => ?_⟩
  have s03 := s02.trans s3
  have R3 := s3 _ _ R2
  have D3 := s3 _ _ D2
  have nfR : fo ≠ R := ref_ne hfo0 R2
  have nfD : fo ≠ Dn := ref_ne hfo0 D2
  have fl := forms_len k
  have ul : us0.length = cols k := by rw [hL.len]; exact vecs_length k xs
  have csz := cols_sz k
  refine ⟨fo, _, rfl, SqL.of hfo, for_it walk_rev (fun i σ H4 => ∃ (rest : List (List Int)) (done : List Job) (us ts : List V) (vss : List (List Addr)) (as : List Addr) (x4 x5 x6 : Option V), σ = [some kv, some (.ref r0), some (.ref R), some (.ref Dn), x4, x5, x6] ∧ run ((forms k).reverse.drop i) rest done = some ([], [⟨k, xs⟩]) ∧
      H4 R = some (.lst us.reverse) ∧ All3 (VAt H (.seq .num)) rest us vss ∧ H4 Dn = some (.lst ts.reverse) ∧ Lanes H4 done ts as ∧ as.Nodup ∧ (∀ b ∈ as, H b = none) ∧ R ∉ as ∧ Dn ∉ as ∧ (∀ v ∈ rest, v.length ≤ 1000) ∧ (∀ j ∈ done, j.vs.length ≤ 1000) ∧ done.length ≤ i ∧ us.length ≤ 900 ∧ (∀ b o, b ≠ R → b ≠ Dn → H3 b = some o → H4 b = some o))
    ⟨(vecs k xs).reverse, [], us0.reverse, [], vss0.reverse, [], none, none, none, rfl, ?_, by rw [List.reverse_reverse]; exact R3, ?_, D3, .nil, List.nodup_nil, fun _ m => (nomatch m), fun m => (nomatch m), fun m => (nomatch m), fun v m => vecs_len k xs hf v (List.mem_reverse.mp m), fun _ m => (nomatch m), Nat.le_refl _, by rw [List.length_reverse]; omega, fun _ _ _ _ e => e⟩ (fun i σ H4 _ h => ?_) ?_ ?_⟩
  · have := run_forms k xs [] [] []
    rw [List.append_nil, List.append_nil] at this
    exact this
  · exact hL.all.rev
  · obtain ⟨_, _, _, _, _, _, _, _, _, _, _, _, _, _, _, _, _, _, _, _, _, _, _, fr⟩ := h
    exact SqL.of (fr _ _ nfR nfD hfo)
  · rintro i y σ H4o H4 hi ⟨rest, done, us, ts, vss, as, x4, x5, x6, rfl, hrun, hR4, hU, hD4, hN, hnd, hfr, nR, nD, hv, hj, hdl, hul, fr⟩ ⟨rfl, hy⟩
    rw [List.length_map] at hi hy
    rw [List.getElem?_map] at hy
    have hy2 : (forms k).reverse[i]? = (forms k)[(forms k).length - 1 - i]? := List.getElem?_reverse hi
    obtain ⟨wd, hwd, rfl⟩ : ∃ wd, (forms k).reverse[i]? = some wd ∧ y = V.str wd := by
      rw [hy2]
      cases e : (forms k)[(forms k).length - 1 - i]? with
      | none => rw [e] at hy; cases hy
      | some wd => rw [e] at hy; exact ⟨wd, rfl, (Option.some.inj hy).symm⟩
    have hdr : (forms k).reverse.drop i = wd :: (forms k).reverse.drop (i + 1) := by
      obtain ⟨hlt, e⟩ := List.getElem?_eq_some_iff.mp hwd
      rw [List.drop_eq_getElem_cons hlt, e]
    rw [hdr] at hrun
    obtain ⟨rest', done', hst, hrun'⟩ := run_inv hrun
    have tl := hN.len
    have old4 : Same H H4 := fun b o e => fr b o (ref_ne2 e hR) (ref_ne2 e Dn0) (s03 _ _ e)
    have nL : ∀ b ∈ as, ∀ ys, H4 b = some (.lst ys) → True := fun _ _ _ _ => trivial
    refine ⟨_, rfl, wd, rfl, ?_⟩
    by_cases c1 : wd = "num"
    · subst c1
      refine ifY (by decide +kernel) ?_
      obtain ⟨v, rfl, rfl⟩ := step_num hst
      cases hU with
      | @cons _ u cs _ us' vss' hu hU =>
      obtain ⟨q1, ws, css, rfl, hq1, hB, _⟩ := hu
      rw [List.reverse_cons] at hR4
      refine ⟨_, rfl, .inl ⟨rfl, _, SqL.of hD4⟩, _, rfl, .inl ⟨rfl, _, SqL.of hR4⟩, R, _, .ref q1, rfl, rfl, hR4, last_snoc _ _, ?_⟩
      rw [List.dropLast_concat]
      have q4 : (upd H4 R (.lst us'.reverse)) q1 = some (.lst ws) := by rw [upd_ne (ref_ne2 hq1 hR)]; exact old4 _ _ hq1
      refine ⟨q1, ws, rfl, .inl (SqL.of q4), fun l hl => ?_⟩
      have sl := same_new hl (.lst ws)
      have hl4 : H4 l = none := free_of' hR4 hl
      have R5 := sl _ _ (upd_same (H := H4) (a := R) (o := .lst us'.reverse))
      have D5 : (upd (upd H4 R (.lst us'.reverse)) l (.lst ws)) Dn = some (.lst ts.reverse) := sl _ _ (by rw [upd_ne nRD.symm]; exact hD4)
      have f5 : ∀ b o, b ≠ R → H4 b = some o → (upd (upd H4 R (.lst us'.reverse)) l (.lst ws)) b = some o := fun b o n e => sl _ _ (by rw [upd_ne n]; exact e)
      have L5 := upd_same (H := upd H4 R (.lst us'.reverse)) (a := l) (o := .lst ws)
      have nlR : l ≠ R := ref_ne hl (upd_same (H := H4) (a := R) (o := .lst us'.reverse))
      have nlD : l ≠ Dn := ref_ne hl4 hD4
      generalize upd (upd H4 R (.lst us'.reverse)) l (.lst ws) = H5 at R5 D5 f5 L5
      refine ⟨Dn, _, _, rfl, rfl, D5, by rw [List.length_reverse]; exact small1000 (by omega), ?_⟩
      have f6 : ∀ b o, b ≠ Dn → H5 b = some o → (upd H5 Dn (.lst (ts.reverse ++ [V.ref l]))) b = some o := fun b o n e => by rw [upd_ne n]; exact e
      have t6 : Kt H4 (upd H5 Dn (.lst (ts.reverse ++ [V.ref l]))) := fun b ys e => f6 b _ (fun z => by rw [z, hD4] at e; cases e) (f5 b _ (fun z => by rw [z, hR4] at e; cases e) e)
      have hl0 : H l = none := free_back old4 hl4
      have ef := (ints_all3 hB).2
      have eA : (l :: css.flatten) ++ as = l :: as := by rw [ef]; rfl
      have nlas : l ∉ as := fun m => by obtain ⟨o, e⟩ := hN.there l m; rw [hl4] at e; cases e
      refine ⟨rest', ⟨.num, v⟩ :: done, us', .ref l :: ts, vss', l :: as, some (.str "num"), x5, x6, rfl, hrun', f6 _ _ nRD R5, hU, by rw [List.reverse_cons]; exact upd_same, ?_, List.nodup_cons.mpr ⟨nlas, hnd⟩, fun b m => ?_, fun m => ?_, fun m => ?_, fun u m => hv u (List.mem_cons_of_mem _ m), fun j m => ?_, by rw [List.length_cons]; omega, by simp only [List.length_cons] at hul; omega, fun b o n1 n2 e => f6 b o n2 (f5 b o n1 (fr b o n1 n2 e))⟩
      · rw [← eA]
        refine .cons (f6 _ _ nlD L5) (hB.imp fun _ _ _ _ r => r) (hN.keep t6 fun b m o e => f6 b o (fun z => nD (by rw [← z]; exact m)) (f5 b o (fun z => nR (by rw [← z]; exact m)) e))
      · rcases List.mem_cons.mp m with m | m
        · rw [m]; exact hl0
        · exact hfr b m
      · rcases List.mem_cons.mp m with m | m
        · exact nlR m.symm
        · exact nR m
      · rcases List.mem_cons.mp m with m | m
        · exact nlD m.symm
        · exact nD m
      · rcases List.mem_cons.mp m with m | m
        · rw [m]; exact hv v (List.mem_cons_self ..)
        · exact hj j m
    by_cases c2 : wd = "pair"
    · subst c2
      refine ifN (by decide +kernel) ?_
      refine ⟨"pair", rfl, ?_⟩
      refine ifY (by decide +kernel) ?_
      obtain ⟨k1, xs1, l1, ys1, d, rfl, hlen, rfl, rfl⟩ := step_pair hst
      cases hN with
      | @cons _ ln1 us1 ass1 _ _ _ a1 b1 hN =>
      cases hN with
      | @cons _ ln2 us2 ass2 _ ts as' a2 b2 hN =>
      rw [List.reverse_cons, List.reverse_cons] at hD4
      simp only [List.length_cons] at hdl
      have tl' := hN.len
      refine ⟨_, rfl, .inl ⟨rfl, _, SqL.of hD4⟩, Dn, _, .ref ln1, rfl, rfl, hD4, last_snoc _ _, ?_⟩
      rw [List.dropLast_concat]
      have D5 := upd_same (H := H4) (a := Dn) (o := .lst (ts.reverse ++ [V.ref ln2]))
      refine ⟨_, rfl, .inl ⟨rfl, _, SqL.of D5⟩, Dn, _, .ref ln2, rfl, rfl, D5, last_snoc _ _, ?_⟩
      rw [List.dropLast_concat, upd_upd]
      have D6 := upd_same (H := H4) (a := Dn) (o := .lst ts.reverse)
      have f6 : ∀ b o, b ≠ Dn → H4 b = some o → (upd H4 Dn (.lst ts.reverse)) b = some o := fun b o n e => by rw [upd_ne n]; exact e
      have t6 : Kt H4 (upd H4 Dn (.lst ts.reverse)) := fun b ys e => f6 b _ (fun z => by rw [z, hD4] at e; cases e) e
      have free6 : ∀ b, (upd H4 Dn (.lst ts.reverse)) b = none → H4 b = none := fun b h => free_of' hD4 h
      generalize upd H4 Dn (.lst ts.reverse) = H6 at D6 f6 t6 free6
      have n1D : ln1 ≠ Dn := fun z => nD (by rw [← z]; simp)
      have n2D : ln2 ≠ Dn := fun z => nD (by rw [← z]; simp)
      have e1 : us1.length = xs1.length := b1.len.1
      have e2 : us2.length = ys1.length := b2.len.1
      have l1k : xs1.length ≤ 1000 := hj ⟨k1, xs1⟩ (List.mem_cons_self ..)
      refine ⟨_, rfl, .inl ⟨rfl, _, SqL.of D6⟩, _, rfl, _, rfl, ln1, ln2, us1, us2, rfl, SqL.of (f6 _ _ n1D a1), SqL.of (f6 _ _ n2D a2), by omega, by omega, fun H7 l tsn hM htl hl hl7 => ?_⟩
      have D7 := hM.keep _ _ D6
      refine ⟨Dn, _, _, rfl, rfl, D7, by rw [List.length_reverse]; exact small1000 (by omega), ?_⟩
      have f8 : ∀ b o, b ≠ Dn → H7 b = some o → (upd H7 Dn (.lst (ts.reverse ++ [V.ref l]))) b = some o := fun b o n e => by rw [upd_ne n]; exact e
      have f48 : ∀ b o, b ≠ Dn → H4 b = some o → (upd H7 Dn (.lst (ts.reverse ++ [V.ref l]))) b = some o := fun b o n e => f8 b o n (hM.keep _ _ (f6 b o n e))
      have t48 : Kt H4 (upd H7 Dn (.lst (ts.reverse ++ [V.ref l]))) := fun b ys e => f48 b _ (fun z => by rw [z, hD4] at e; cases e) e
      have hl4 := free6 l hl
      have hlD : l ≠ Dn := ref_ne hl D6
      have nR' : l ≠ R := ref_ne hl4 hR4
      have inold : ∀ b ∈ (ln1 :: ass1.flatten) ++ ((ln2 :: ass2.flatten) ++ as'), ∃ o, H4 b = some o := (Lanes.cons (j := ⟨k1, xs1⟩) a1 b1 (.cons (j := ⟨l1, ys1⟩) a2 b2 hN)).there
      have nold : l ∉ (ln1 :: ass1.flatten) ++ ((ln2 :: ass2.flatten) ++ as') := fun m => by obtain ⟨o, e⟩ := inold l m; rw [hl4] at e; cases e
      have pm : ((l :: (List.zipWith (· ++ ·) ass1 ass2).flatten) ++ as').Perm ([l] ++ ((ass1.flatten ++ ass2.flatten) ++ as')) := List.Perm.cons l (List.Perm.append_right as' (zip_perm ass1 ass2 (by rw [b1.len.2, b2.len.2]; exact hlen)))
      have sb : ((ass1.flatten ++ ass2.flatten) ++ as').Sublist ((ln1 :: ass1.flatten) ++ ((ln2 :: ass2.flatten) ++ as')) := by
        rw [List.append_assoc]
        exact (List.sublist_cons_self ..).append ((List.sublist_cons_self ..).append (List.Sublist.refl _))
      obtain ⟨nd', mem'⟩ := perm_new pm sb (by simp) hnd (fun b m => by rw [List.mem_singleton.mp m]; exact nold)
      have hall : All3 (VAt (upd H7 Dn (.lst (ts.reverse ++ [V.ref l]))) (.pair k1 l1)) (xs1.zip ys1) (tsn.map V.ref) (List.zipWith (· ++ ·) ass1 ass2) :=
        zip_all (all3_keep t48 b1 fun b m o e => f48 b o (fun z => nD (by rw [← z]; simp [m])) e) (all3_keep t48 b2 fun b m o e => f48 b o (fun z => nD (by rw [← z]; simp [m])) e) hlen (htl.trans e1) fun j t e => by
          obtain ⟨t0, x, y, g1, g2, g3⟩ := hM.pairs j t e
          exact ⟨x, y, g1, g2, f8 _ _ (ref_ne t0 D6) g3⟩
      have hl0 : H l = none := free_back old4 hl4
      refine ⟨_, ⟨.pair k1 l1, xs1.zip ys1⟩ :: d, us, .ref l :: ts, vss, _, some (.str "pair"), some (.ref ln1), some (.ref ln2), rfl, hrun', f48 _ _ nRD hR4, hU, by rw [List.reverse_cons]; exact upd_same, .cons (f8 _ _ hlD hl7) hall (hN.keep t48 fun b m o e => f48 b o (fun z => nD (by rw [← z]; simp [m])) e), nd', fun b m => ?_, fun m => ?_, fun m => ?_, hv, fun j m => ?_, by rw [List.length_cons]; omega, hul, fun b o n1 n2 e => f48 b o n2 (fr b o n1 n2 e)⟩
      · rcases mem' b m with m | m
        · rw [List.mem_singleton.mp m]; exact hl0
        · exact hfr b m
      · rcases mem' R m with m | m
        · exact nR' (List.mem_singleton.mp m).symm
        · exact nR m
      · rcases mem' Dn m with m | m
        · exact hlD (List.mem_singleton.mp m).symm
        · exact nD m
      · rcases List.mem_cons.mp m with m | m
        · rw [m]
          show (xs1.zip ys1).length ≤ 1000
          rw [List.length_zip]
          omega
        · exact hj j (List.mem_cons_of_mem _ (List.mem_cons_of_mem _ m))
    · refine ifN (fun m => c1 (List.mem_singleton.mp m)) ?_
      refine ⟨wd, rfl, ?_⟩
      refine ifN (fun m => c2 (List.mem_singleton.mp m)) ?_
      obtain ⟨k1, xs1, d, v, rfl, rfl, hvn, hns, rfl⟩ := step_other hst c1 c2
      cases hN with
      | @cons _ ln1 us1 ass1 _ ts as' a1 b1 hN =>
      cases hU with
      | @cons _ u cs _ us' vss' hu hU =>
      obtain ⟨q1, ws, css, rfl, hq1, hB, _⟩ := hu
      have ews := (ints_all3 hB).1
      have ews' : ws = v.map V.int := by
        have e3 : (v.map int : List Int) = v := List.map_id v
        rw [e3] at ews
        exact ews
      rw [List.reverse_cons] at hD4 hR4
      simp only [List.length_cons] at hdl hul
      have tl' := hN.len
      have hvl := hv v (List.mem_cons_self ..)
      refine ⟨_, rfl, .inl ⟨rfl, _, SqL.of hD4⟩, _, rfl, .inl ⟨rfl, _, SqL.of hD4⟩, Dn, _, .ref ln1, rfl, rfl, hD4, last_snoc _ _, ?_⟩
      rw [List.dropLast_concat]
      have R5 : (upd H4 Dn (.lst ts.reverse)) R = some (.lst (us'.reverse ++ [V.ref q1])) := by rw [upd_ne nRD]; exact hR4
      refine ⟨_, rfl, .inl ⟨rfl, _, SqL.of R5⟩, R, _, .ref q1, rfl, rfl, R5, last_snoc _ _, ?_⟩
      rw [List.dropLast_concat]
      have D6 : (upd (upd H4 Dn (.lst ts.reverse)) R (.lst us'.reverse)) Dn = some (.lst ts.reverse) := by rw [upd_ne nRD.symm]; exact upd_same
      have R6 := upd_same (H := upd H4 Dn (.lst ts.reverse)) (a := R) (o := .lst us'.reverse)
      have f6 : ∀ b o, b ≠ Dn → b ≠ R → H4 b = some o → (upd (upd H4 Dn (.lst ts.reverse)) R (.lst us'.reverse)) b = some o := fun b o n n2 e => by rw [upd_ne n2, upd_ne n]; exact e
      have free6 : ∀ b, (upd (upd H4 Dn (.lst ts.reverse)) R (.lst us'.reverse)) b = none → H4 b = none := fun b h => free_of' hD4 (free_of' R5 h)
      generalize upd (upd H4 Dn (.lst ts.reverse)) R (.lst us'.reverse) = H6 at D6 R6 f6 free6
      have n1D : ln1 ≠ Dn := fun z => nD (by rw [← z]; simp)
      have n1R : ln1 ≠ R := fun z => nR (by rw [← z]; simp)
      have q6 : H6 q1 = some (.lst ws) := f6 _ _ (ref_ne2 hq1 Dn0) (ref_ne2 hq1 hR) (old4 _ _ hq1)
      have e1 : us1.length = xs1.length := b1.len.1
      have hB6 : SqL K H6 q1 (((v.map Int.toNat).map fun (n : Nat) => (n : Int)).map V.int) := by
        rw [← hvn, ← ews']; exact SqL.of q6
      refine ⟨ln1, q1, us1, v.map Int.toNat, rfl, SqL.of (f6 _ _ n1D n1R a1), hB6, by rw [hns, e1]; exact Nat.le_refl _, by rw [List.length_map]; exact hvl, fun H7 l rs s7 hl hl7 hRw hrnd hlrs => ?_⟩
      have D7 := s7 _ _ D6
      refine ⟨Dn, _, _, rfl, rfl, D7, by rw [List.length_reverse]; exact small1000 (by omega), ?_⟩
      have f8 : ∀ b o, b ≠ Dn → H7 b = some o → (upd H7 Dn (.lst (ts.reverse ++ [V.ref l]))) b = some o := fun b o n e => by rw [upd_ne n]; exact e
      have f48 : ∀ b o, b ≠ Dn → b ≠ R → H4 b = some o → (upd H7 Dn (.lst (ts.reverse ++ [V.ref l]))) b = some o := fun b o n n2 e => f8 b o n (s7 _ _ (f6 b o n n2 e))
      have t48 : Kt H4 (upd H7 Dn (.lst (ts.reverse ++ [V.ref l]))) := fun b ys e => f48 b _ (fun z => by rw [z, hD4] at e; cases e) (fun z => by rw [z, hR4] at e; cases e) e
      have hl4 := free6 l hl
      have hlD : l ≠ Dn := ref_ne hl D6
      have nR' : l ≠ R := ref_ne hl R6
      have inold : ∀ b ∈ (ln1 :: ass1.flatten) ++ as', ∃ o, H4 b = some o := (Lanes.cons (j := ⟨k1, xs1⟩) a1 b1 hN).there
      have rfree : ∀ b ∈ l :: rs, H6 b = none := fun b m => by
        rcases List.mem_cons.mp m with m | m
        · rw [m]; exact hl
        · exact (hRw.mem b m).1
      have nold : ∀ b ∈ l :: rs, b ∉ (ln1 :: ass1.flatten) ++ as' := fun b m m' => by
        obtain ⟨o, e⟩ := inold b m'
        rw [free6 b (rfree b m)] at e; cases e
      have rl := hRw.len
      rw [chunks_len] at rl
      have cf : (chunks (v.map Int.toNat) ass1).flatten = ass1 := chunks_flat _ _ (by rw [hns, b1.len.2])
      have zp := rows_perm rs (chunks (v.map Int.toNat) ass1) (by rw [rl, chunks_len])
      rw [cf] at zp
      have pm : ((l :: (List.zipWith (fun r c => r :: List.flatten c) rs (chunks (v.map Int.toNat) ass1)).flatten) ++ as').Perm ((l :: rs) ++ (ass1.flatten ++ as')) := by
        rw [List.cons_append, List.cons_append, ← List.append_assoc]
        exact List.Perm.cons l (List.Perm.append_right as' zp)
      have sb : (ass1.flatten ++ as').Sublist ((ln1 :: ass1.flatten) ++ as') := (List.sublist_cons_self ..).append (List.Sublist.refl _)
      obtain ⟨nd', mem'⟩ := perm_new pm sb (List.nodup_cons.mpr ⟨hlrs, hrnd⟩) hnd nold
      have hall : All3 (VAt (upd H7 Dn (.lst (ts.reverse ++ [V.ref l]))) (.seq k1)) (chunks (v.map Int.toNat) xs1) (rs.map V.ref) (List.zipWith (fun r c => r :: List.flatten c) rs (chunks (v.map Int.toNat) ass1)) :=
        rows_vals (H0 := H6) (all3_keep t48 b1 fun b m o e => f48 b o (fun z => nD (by rw [← z]; simp [m])) (fun z => nR (by rw [← z]; simp [m])) e) (hRw.keep fun b m o e => f8 b o (ref_ne (rfree b (List.mem_cons_of_mem _ m)) D6) e)
      refine ⟨rest', ⟨.seq k1, chunks (v.map Int.toNat) xs1⟩ :: d, us', .ref l :: ts, vss', _, some (.str wd), x5, x6, rfl, hrun', f8 _ _ nRD (s7 _ _ R6), hU, by rw [List.reverse_cons]; exact upd_same, .cons (f8 _ _ hlD hl7) hall (hN.keep t48 fun b m o e => f48 b o (fun z => nD (by rw [← z]; simp [m])) (fun z => nR (by rw [← z]; simp [m])) e), nd', fun b m => ?_, fun m => ?_, fun m => ?_, fun u m => hv u (List.mem_cons_of_mem _ m), fun j m => ?_, by rw [List.length_cons]; omega, by omega, fun b o n1 n2 e => f48 b o n2 n1 (fr b o n1 n2 e)⟩
      · rcases mem' b m with m | m
        · exact free_back old4 (free6 b (rfree b m))
        · exact hfr b m
      · rcases mem' R m with m | m
        · have := rfree R m; rw [R6] at this; cases this
        · exact nR m
      · rcases mem' Dn m with m | m
        · have := rfree Dn m; rw [D6] at this; cases this
        · exact nD m
      · rcases List.mem_cons.mp m with m | m
        · rw [m]
          show (chunks (v.map Int.toNat) xs1).length ≤ 1000
          rw [chunks_len, List.length_map]
          exact hvl
        · exact hj j (List.mem_cons_of_mem _ m)
  · rintro σ H4 ⟨rest, done, us, ts, vss, as, x4, x5, x6, rfl, hrun, hR4, hU, hD4, hN, hnd, hfr, nR, nD, hv, hj, hdl, hul, fr⟩
    rw [List.length_map, List.drop_of_length_le (by rw [List.length_reverse]; exact Nat.le_refl _)] at hrun
    have e : (rest, done) = ([], [⟨k, xs⟩]) := Option.some.inj hrun
    obtain ⟨rfl, rfl⟩ := Prod.mk.inj e
    cases hN with
    | @cons j ln us2 ass2 js ts2 as2 h1 h2 h3 =>
    cases h3
    refine ⟨_, rfl, Dn, _, _, _, rfl, rfl, SqL.of hD4, atI_nat (j := 0) rfl, q H4 _ _ (fun b o e => fr b o (ref_ne2 e hR) (ref_ne2 e Dn0) (s03 _ _ e)) ⟨ln, us2, ass2, rfl, h1, h2, List.append_nil _⟩ hnd hfr⟩
end
end K5

namespace K5
open PySem PySem.Spec PyProof.Rows L2 KV
theorem some_k {P : Program} {w : World} {K : PySem.W.Frag} {mg : Str → Option Value} {base : Heap} {CX : CXT} {n : Nat} {f : Addr} {fd : FuncData} {ps : List Str} {α : Type} {sp : α → Sp} (h : ∀ k, FnOk P w K mg base CX n f fd ps (sp k)) : FnOk P w K mg base CX n f fd ps (fun vs H Q E => ∃ k, sp k vs H Q E) :=
  ⟨fun vs H Q E ⟨k, q⟩ => (h k).len vs H Q E q, fun A outer s H args us vs Q E hr h0 hb hv ⟨k, q⟩ => (h k).run A outer s H args us vs Q E hr h0 hb hv q⟩
theorem sz_le (k : Kd) : k.sz + 1 ≤ 2 ^ k.dep := by
  induction k with
  | num => decide
  | pair a b iha ihb =>
    have p1 : 2 ^ a.dep ≤ 2 ^ max a.dep b.dep := Nat.pow_le_pow_right (by decide) (by omega)
    have p2 : 2 ^ b.dep ≤ 2 ^ max a.dep b.dep := Nat.pow_le_pow_right (by decide) (by omega)
    simp only [Kd.sz, Kd.dep, Nat.pow_succ]
    omega
  | seq a ih =>
    have p : 1 ≤ 2 ^ a.dep := Nat.pow_pos (by decide)
    simp only [Kd.sz, Kd.dep, Nat.pow_succ]
    omega
theorem vecs_inR {L M : Nat} (hM : M ≤ 1000000) : ∀ (k : Kd) (xs : List (Val k)), (∀ x ∈ xs, Bd L k x) → L ≤ M → ∀ v ∈ vecs k xs, ∀ n ∈ v, InR n
  | .num, xs, h, _, v, m, n, mn => by
    rw [List.mem_singleton.mp m] at mn
    obtain ⟨y, my, rfl⟩ := List.mem_map.mp mn
    exact h y my
  | .pair a b, xs, h, hl, v, m, n, mn => by
    rcases List.mem_append.mp m with m | m
    · exact vecs_inR hM a _ (fun x mx => by obtain ⟨y, my, rfl⟩ := List.mem_map.mp mx; exact (h y my).1) hl v m n mn
    · exact vecs_inR hM b _ (fun x mx => by obtain ⟨y, my, rfl⟩ := List.mem_map.mp mx; exact (h y my).2) hl v m n mn
  | .seq a, xs, h, hl, v, m, n, mn => by
    rcases List.mem_cons.mp m with m | m
    · rw [m] at mn
      obtain ⟨y, my, rfl⟩ := List.mem_map.mp mn
      have := (h y my).1
      unfold InR
      omega
    · refine vecs_inR hM a _ (fun x mx => ?_) hl v m n mn
      obtain ⟨zs, m1, m2⟩ := List.mem_flatten.mp mx
      obtain ⟨y, my, rfl⟩ := List.mem_map.mp m1
      exact (h y my).2 x m2
section
variable {P : Program} {w : World} {K : PySem.W.Frag} {mg : Str → Option Value} {base : Heap} {a : GAd}
def spLaw (K : PySem.W.Frag) : Sp := fun vs H Q _ => ∃ (p : Addr) (ns : List Int), vs = [.ref p] ∧ SqL K H p (ns.map V.int) ∧ ns.length ≤ 63 ∧ ∀ H', Q (.bl true) H'
theorem eq_no {k : Kd} (x : Val k) : (!PyData.eqv (dat k x) (dat k x)) = false := by rw [SeqAt.eqv_refl _ (dat_lay _ _)]; rfl
theorem len_ok {k : Kd} {x : Val k} {L : Nat} (b : Bd L k x) (hs : Sh L k ≤ 16000000) : (dat k x).shown.length ≤ sizeLine := Nat.le_trans (dat_shown b) (Nat.le_trans hs (by decide))
theorem ok_law (T : GTxt K mg a) : GX.FnG P w K mg base CX0 12 a.law.1 a.law.2 ["script"] (spLaw K) := by
  refine GX.fnG T.law.F sc_law (fun vs H Q E h => ?_) (fun cdv A outer s H vs Q E hg hr h => ?_)
  · obtain ⟨p, ns, rfl, _⟩ := h
    rfl
  obtain ⟨p, ns, rfl, hS, h63, q⟩ := h
  have nd := sc_law.nd
  have G_law_state := ok_law_state (P := P) (w := w) (base := base) T
  have G_law_draw := ok_law_draw (P := P) (w := w) (base := base) T
  have G_law_kind := ok_law_kind (P := P) (w := w) (base := base) T 4
  have G_law_value := ok_law_value (P := P) (w := w) (base := base) T 5
  have G_law_lanes := ok_law_lanes (P := P) (w := w) (base := base) T 5 (by decide)
  have G_law_spoil := ok_law_spoil (P := P) (w := w) (base := base) T 6
  have G_vectors_of : FnOk P w K mg base CX0 1 a.vectors_of.1 a.vectors_of.2 ["kind", "values"] (fun vs H Q E => ∃ k, spVecs k vs H Q E) := some_k fun k => ok_vectors_of T k
  have G_values_of : FnOk P w K mg base CX0 2 a.values_of.1 a.values_of.2 ["kind", "vectors"] (fun vs H Q E => ∃ k, spBack k vs H Q E) := some_k fun k => ok_values_of T k
  have hu := hu_of hr
  suffices hh : ∃ t, PSs (cxOf CX0 P w K mg base ["script", "state", "kind", "values", "before", "vectors", "given", "back", "k"] "law" (defScope s_law) a.law.1 cdv A outer s H E).nox (defBody s_law) t ∧ t { nx := fun _ H' => Q .non H', rt := Q } (start ["script", "state", "kind", "values", "before", "vectors", "given", "back", "k"] [V.ref p]) H by
    obtain ⟨t, ht, hq⟩ := hh
    exact ⟨t, ht.nox, hq⟩
  refine ⟨_, (pss_cons (ps_set (i := 1) nd rfl (Or.inr rfl) (pe_call G_law_state (hr.mono (by omega)) rfl T.law_state.g T.law_state.F.kp T.law_state.b .nil pass0 (pa_cons (pv 0) pa_nil)))
  (pss_cons (ps_set (i := 2) nd rfl (Or.inr rfl) (pe_call G_law_kind (hr.mono (by omega)) rfl T.law_kind.g T.law_kind.F.kp T.law_kind.b .nil pass0 (pa_cons (pv 1) (pa_cons pe_int pa_nil))))
  (pss_cons (ps_setLc (i := 3) (own := [("k", 8)]) (g := gName 8) (tt := tYes) rfl nd rfl rfl (sw_true rfl rfl rfl (by decide +kernel)) (pi_range1 rfl T.range (pa_cons (pe_call G_law_draw (hr.mono (by omega)) rfl T.law_draw.g T.law_draw.F.kp T.law_draw.b .nil pass0 (pa_cons (pv 1) (pa_cons pe_int pa_nil))) pa_nil)) (blkOk_by (N := ["script", "state", "kind", "values", "before", "vectors", "given", "back", "k"]) (sc := defScope s_law) (by decide +kernel)) (fun _ _ _ _ _ => (pg_name (i := 8) nd rfl (Or.inl rfl))) (fun _ _ _ _ _ => pts_nil) (fun _ _ _ _ _ => (pe_call G_law_value (hr.mono (by omega)) rfl T.law_value.g T.law_value.F.kp T.law_value.b .nil pass0 (pa_cons (pv 1) (pa_cons (pv 2) pa_nil)))))
  (pss_cons (ps_set (i := 4) nd rfl (Or.inl rfl) (pe_callB (GX.call_reprD hg hr.units) (by rfl) T.repr (by decide +kernel) (pa_cons (pv 3) pa_nil)))
  (pss_cons (ps_set (i := 5) nd rfl (Or.inl rfl) (pe_call G_vectors_of (hr.mono (by omega)) rfl T.vectors_of.g T.vectors_of.F.kp T.vectors_of.b .nil pass0 (pa_cons (pv 2) (pa_cons (pv 3) pa_nil))))
  (pss_cons (ps_if (PW.pt (pw_or (pt_cmpR (op_neD hr.units) (pv 5) (pe_call G_law_lanes (hr.mono (by omega)) rfl T.law_lanes.g T.law_lanes.F.kp T.law_lanes.b .nil pass0 (pa_cons (pv 2) (pa_cons (pv 3) pa_nil))) (nomark _)) (pw_or1 (pt_cmpR op_ne (pe_callB (GX.call_reprD hg hr.units) (by rfl) T.repr (by decide +kernel) (pa_cons (pv 3) pa_nil)) (pv 4) (nomark _))))) (pss_one (ps_ret pe_bl)) pss_nil)
  (pss_cons (ps_set (i := 6) nd rfl (Or.inl rfl) (pe_callB (GX.call_reprD hg hr.units) (by rfl) T.repr (by decide +kernel) (pa_cons (pv 5) pa_nil)))
  (pss_cons (ps_set (i := 7) nd rfl (Or.inl rfl) (pe_call G_values_of (hr.mono (by omega)) rfl T.values_of.g T.values_of.F.kp T.values_of.b .nil pass0 (pa_cons (pv 2) (pa_cons (pv 5) pa_nil))))
  (pss_cons (ps_if (PW.pt (pw_or (pt_cmpR (op_neD hr.units) (pv 7) (pv 3) (nomark _)) (pw_or1 (pt_cmpR op_ne (pe_callB (GX.call_reprD hg hr.units) (by rfl) T.repr (by decide +kernel) (pa_cons (pv 5) pa_nil)) (pv 6) (nomark _))))) (pss_one (ps_ret pe_bl)) pss_nil)
  (pss_cons (ps_expr (pe_call G_law_spoil (hr.mono (by omega)) rfl T.law_spoil.g T.law_spoil.F.kp T.law_spoil.b .nil pass0 (pa_cons (pv 7) pa_nil)))
  (pss_cons (ps_if (pt_cmpR op_ne (pe_callB (GX.call_reprD hg hr.units) (by rfl) T.repr (by decide +kernel) (pa_cons (pv 5) pa_nil)) (pv 6) (nomark _)) (pss_one (ps_ret pe_bl)) pss_nil)
  (pss_cons (ps_expr (pe_call G_law_spoil (hr.mono (by omega)) rfl T.law_spoil.g T.law_spoil.F.kp T.law_spoil.b .nil pass0 (pa_cons (pv 5) pa_nil)))
  (pss_one (ps_ret (pe_cmpR op_eq (pe_callB (GX.call_reprD hg hr.units) (by rfl) T.repr (by decide +kernel) (pa_cons (pv 3) pa_nil)) (pv 4) (nomark _)))))))))))))))), ?_⟩
  refine ⟨_, rfl, p, ns, rfl, hS, h63, fun H1 st c s1 nst nc hSt1 => ?_⟩
  refine ⟨_, rfl, st, c, rfl, hSt1, fun H2 k kv g2 hk hkd => ?_⟩
  have hkd5 : k.dep ≤ 5 := hkd
  refine ⟨_, rfl, st, c, _, rfl, g2.2, by decide, by decide, fun H3 m g3 m0 m1 => ?_⟩
  have hk3 := hk.kt (g3.kt g2.2)
  refine ⟨_, rfl, by omega, by omega, fun D hD => lc_range (lo := 0) (n := m.toNat) (fun i H4 => ∃ (xs : List (Val k)) (us : List V) (ass : List (List Addr)), H4 D = some (.lst us) ∧ us.length = i ∧ All3 (VAt H4 k) xs us ass ∧ (∀ x ∈ xs, Bd 3 k x) ∧ (∀ as ∈ ass, ∀ b ∈ as, H3 b = none ∧ b ≠ D) ∧ Go st c H3 H4) ⟨[], [], [], upd_same, rfl, .nil, fun _ z => (nomatch z), fun _ z => (nomatch z), Go.new g3.2 hD⟩ ?_ ?_⟩
  · rintro i H4 hi ⟨xs, us, ass, hD4, hl, hA, hB, hf, g4⟩
    refine ⟨rfl, _, rfl, _, rfl, k, hkd5, st, c, kv, rfl, g4.2, hk3.kt (g4.kt g3.2), fun H5 x v as g5 av bv fv => ?_⟩
    have nD : D ≠ st ∧ D ≠ c := by
      obtain ⟨_, _, z1, z2⟩ := g3.2
      exact ⟨ref_ne hD z1, ref_ne hD z2⟩
    have hD5 : H5 D = some (.lst us) := g5.1 D _ nD.1 nD.2 hD4
    have new3 : ∀ b ∈ as, H3 b = none ∧ b ≠ D := fun b mb => ⟨g4.back (fv b mb), ref_ne (fv b mb) hD4⟩
    have old5 : ∀ as' ∈ ass, ∀ b ∈ as', ∀ o, H4 b = some o → H5 b = some o := fun as' m1 b m2 o e => by
      have f := (hf as' m1 b m2).1
      obtain ⟨_, _, z1, z2⟩ := g3.2
      exact g5.1 b o (ref_ne f z1) (ref_ne f z2) e
    have hA5 : All3 (VAt H5 k) (xs ++ [x]) (us ++ [v]) (ass ++ [as]) := (hA.imp fun x u as' m r => r.keep (g5.kt g4.2) fun b mb o e => old5 as' m b mb o e).app (.one av)
    have all5 : ∀ as' ∈ ass ++ [as], ∀ b ∈ as', H3 b = none ∧ b ≠ D := fun as' m b mb => by
      rcases List.mem_append.mp m with m | m
      · exact hf as' m b mb
      · rw [List.mem_singleton.mp m] at mb; exact new3 b mb
    refine ⟨us, hD5, small1000 (by omega), xs ++ [x], us ++ [v], ass ++ [as], upd_same, by rw [List.length_append, hl]; rfl, hA5.imp fun x u as' m r => r.keep (fun b ys e => ?_) (fun b mb o e => ?_), fun y my => ?_, all5, ?_⟩
    · rw [upd_ne (fun z => by rw [z, hD5] at e; cases e)]; exact e
    · rw [upd_ne (all5 as' m b mb).2]; exact e
    · rcases List.mem_append.mp my with my | my
      · exact hB y my
      · rw [List.mem_singleton.mp my]; exact bv
    · refine ⟨fun b o n1 n2 e => ?_, ?_⟩
      · rw [upd_ne (fun z => by rw [z, hD] at e; cases e)]
        exact g5.1 b o n1 n2 (g4.1 b o n1 n2 e)
      · obtain ⟨ns, z, z1, z2⟩ := g5.2
        exact ⟨ns, z, by rw [upd_ne nD.1.symm]; exact z1, by rw [upd_ne nD.2.symm]; exact z2⟩
  rintro H4 ⟨xs, us, ass, hD4, hl, hA, hB, hf, g4⟩
  have hk4 := hk3.kt (g4.kt g3.2)
  have hLn : LnAt H4 k xs D us ass := ⟨hD4, hA⟩
  have lx : xs.length = m.toNat := all3_range hA hl
  have lx5 : xs.length ≤ 5 := by omega
  have hsz : k.sz ≤ 31 := by
    have h1 := sz_le k
    have h2 : 2 ^ k.dep ≤ 2 ^ 5 := Nat.pow_le_pow_right (by decide) hkd5
    omega
  have hfit : fits 1000 k xs := fits_of (L := 3) (by decide) k xs hB (by
    have h2 : 3 ^ (k.dep - 1) ≤ 3 ^ 4 := Nat.pow_le_pow_right (by decide) (by omega)
    have h3 := Nat.mul_le_mul lx5 h2
    omega)
  have hcol := cols_sz k
  have bd5 : Bd 5 (.seq k) xs := ⟨lx5, fun x mx => (hB x mx).mono (by decide)⟩
  have hSh : Sh 5 (.seq k) ≤ 16000000 := by
    have h1 := Sh_le (L := 5) (by decide) (.seq k)
    have h2 : (5 + 1) ^ ((Kd.seq k).dep - 1) ≤ (5 + 1) ^ 5 := Nat.pow_le_pow_right (by decide) (by simp only [Kd.dep]; omega)
    omega
  have hdep : (Kd.seq k).dep ≤ 60 := by simp only [Kd.dep]; omega
  have bdv : Bd 1000 (.seq (.seq .num)) (vecs k xs) := ⟨by show (vecs k xs).length ≤ 1000; rw [vecs_length]; omega, fun v mv => ⟨vecs_len k xs hfit v mv, fun n mn => vecs_inR (L := 3) (M := 1000) (by decide) k xs hB (by decide) v mv n mn⟩⟩
  have hShv : Sh 1000 (.seq (.seq .num)) ≤ 16000000 := by decide
  have hdv : (Kd.seq (.seq .num)).dep ≤ 60 := by decide
  refine ⟨_, rfl, _, _, rfl, hLn.vat.dp, dat_showable bd5, dat_nodict _ _, Nat.le_trans (dat_depth _ _) hdep, len_ok bd5 hSh, ?_⟩
  refine ⟨_, rfl, _, rfl, k, kv, D, xs, us, ass, rfl, hk4, hLn, hfit, by omega, fun H5 r qs s5 lv ndq frq => ?_⟩
  refine ⟨_, rfl, _, rfl, _, rfl, k, hkd5, by omega, kv, D, xs, us, ass, rfl, hk4.kt (Kt.of s5), hLn.same s5, hfit, fun H6 r6 us6 ass6 s6 l6 c6 => ?_⟩
  have lv6 := lv.same s6
  refine ⟨_, _, lv6.vat.dp, l6.vat.dp, dat_shaped _ hdv, dat_shaped _ hdv, _, rfl, ?_⟩
  refine ifF (eq_no _) ?_
  have hL6 := hLn.same (s5.trans s6)
  refine ⟨_, rfl, _, _, rfl, hL6.vat.dp, dat_showable bd5, dat_nodict _ _, Nat.le_trans (dat_depth _ _) hdep, len_ok bd5 hSh, ?_⟩
  refine ⟨_, rfl, rfl, _, rfl, ?_⟩
  refine ifF (by rw [decide_eq_true rfl]; rfl) ?_
  refine ⟨_, rfl, _, _, rfl, lv6.vat.dp, dat_showable bdv, dat_nodict _ _, Nat.le_trans (dat_depth _ _) hdv, len_ok bdv hShv, ?_⟩
  refine ⟨_, rfl, _, rfl, k, kv, r, xs, _, _, rfl, hk4.kt (Kt.of (s5.trans s6)), lv6, hfit, by omega, fun H7 v as s7 hv nda fra => ?_⟩
  have lv7 := lv6.same s7
  have hL7 := hL6.same s7
  obtain ⟨pb, usb, assb, rfl, _⟩ := id hv
  refine ⟨_, rfl, _, rfl, _, _, hv.dp, hL7.vat.dp, dat_shaped _ hdep, dat_shaped _ hdep, _, rfl, ?_⟩
  refine ifF (eq_no _) ?_
  refine ⟨_, rfl, _, _, rfl, lv7.vat.dp, dat_showable bdv, dat_nodict _ _, Nat.le_trans (dat_depth _ _) hdv, len_ok bdv hShv, ?_⟩
  refine ⟨_, rfl, rfl, _, rfl, ?_⟩
  refine ifF (by rw [decide_eq_true rfl]; rfl) ?_
  refine ⟨_, rfl, .seq k, by simp only [Kd.dep]; omega, xs, _, as, rfl, hv, nda, bd5.mono (by decide), fun H8 f8 => ?_⟩
  have tl : ∀ b ∈ as, ∀ ys, H7 b ≠ some (.tup ys) := fun b mb ys e => by obtain ⟨ws, z⟩ := hv.lists b mb; rw [z] at e; cases e
  have there : ∀ {kk : Kd} {x : Val kk} {v : V} {bs : List Addr}, VAt H6 kk x v bs → ∀ b ∈ bs, b ∉ as := fun h b mb ma => by
    obtain ⟨ws, z⟩ := h.lists b mb
    rw [fra b ma] at z; cases z
  have lv8 : VAt H8 (.seq (.seq .num)) (vecs k xs) (.ref r) (r :: (qs.map fun q => [q]).flatten) := lv7.vat.off tl f8 (there lv6.vat)
  have hv8 : VAt H8 (.seq k) xs (.ref D) (D :: ass.flatten) := hL7.vat.off tl f8 (there hL6.vat)
  refine ⟨_, rfl, _, _, rfl, lv8.dp, dat_showable bdv, dat_nodict _ _, Nat.le_trans (dat_depth _ _) hdv, len_ok bdv hShv, ?_⟩
  refine ⟨_, rfl, rfl, _, rfl, ?_⟩
  refine ifF (by rw [decide_eq_true rfl]; rfl) ?_
  refine ⟨_, rfl, .seq (.seq .num), by decide, vecs k xs, _, _, rfl, lv8, by rw [one_flat]; exact ndq, bdv, fun H9 f9 => ?_⟩
  have hv9 : VAt H9 (.seq k) xs (.ref D) (D :: ass.flatten) := hv8.off (fun b mb ys e => by obtain ⟨ws, z⟩ := lv8.lists b mb; rw [z] at e; cases e) f9 fun b mb ma => by
    rw [one_flat] at ma
    obtain ⟨ws, z⟩ := hLn.vat.lists b mb
    rw [frq b ma] at z; cases z
  refine ⟨_, rfl, _, _, rfl, hv9.dp, dat_showable bd5, dat_nodict _ _, Nat.le_trans (dat_depth _ _) hdep, len_ok bd5 hSh, ?_⟩
  refine ⟨_, rfl, rfl, ?_⟩
  rw [decide_eq_true rfl]
  exact q _
end
end K5

namespace K5
open PySem PySem.Spec PyProof.Rows L2 KV
/-! ### the top -/
theorem all_mk {l : PySem.W.OpenLaw} {w : World} {K : PySem.W.Frag} {h : Heap} {mg : Str → Option Value} {fa f0 f1 f2 f3 f4 f5 f6 f7 f8 f9 f10 f11 f12 : Addr} (X : K.In h) (G : h.Ns mainGlobals mg) (hfa : mg "law" = some (.ref fa))
    {od0 an0 od1 an1 od2 an2 od3 an3 od4 an4 od5 an5 od6 an6 od7 an7 od8 an8 od9 an9 od10 an10 od11 an11 od12 an12 : Option Addr} {sl0 sl1 sl2 sl3 sl4 sl5 sl6 sl7 sl8 sl9 sl10 sl11 sl12 : Array (Option Value)} {oc0 kV0 dc0 pm0 cd0 ct0 oc1 kV1 dc1 pm1 cd1 ct1 oc2 kV2 dc2 pm2 cd2 ct2 oc3 kV3 dc3 pm3 cd3 ct3 oc4 kV4 dc4 pm4 cd4 ct4 oc5 kV5 dc5 pm5 cd5 ct5 oc6 kV6 dc6 pm6 cd6 ct6 oc7 kV7 dc7 pm7 cd7 ct7 oc8 kV8 dc8 pm8 cd8 ct8 oc9 kV9 dc9 pm9 cd9 ct9 oc10 kV10 dc10 pm10 cd10 ct10 oc11 kV11 dc11 pm11 cd11 ct11 oc12 kV12 dc12 pm12 cd12 ct12 : Value} 
    (a0 : PySem.W.nsIn K mainGlobals "vectors_of" = some (some (.ref f0))) (l0 : K.lookup f0 = some ⟨oc0, od0, .func (PySem.W.fnOf "vectors_of" "vectors_of" (defArgs s_vectors_of) (defBody s_vectors_of) (defScope s_vectors_of) .none kV0 dc0 pm0 an0 cd0 ct0), sl0⟩) (c0 : PySem.W.codeIn K cd0 "vectors_of" = true) (k0 : PySem.W.keepIn K (.ref f0) = true)
    (a1 : PySem.W.nsIn K mainGlobals "values_of" = some (some (.ref f1))) (l1 : K.lookup f1 = some ⟨oc1, od1, .func (PySem.W.fnOf "values_of" "values_of" (defArgs s_values_of) (defBody s_values_of) (defScope s_values_of) .none kV1 dc1 pm1 an1 cd1 ct1), sl1⟩) (c1 : PySem.W.codeIn K cd1 "values_of" = true) (k1 : PySem.W.keepIn K (.ref f1) = true)
    (a2 : PySem.W.nsIn K mainGlobals "forms_of" = some (some (.ref f2))) (l2 : K.lookup f2 = some ⟨oc2, od2, .func (PySem.W.fnOf "forms_of" "forms_of" (defArgs s_forms_of) (defBody s_forms_of) (defScope s_forms_of) .none kV2 dc2 pm2 an2 cd2 ct2), sl2⟩) (c2 : PySem.W.codeIn K cd2 "forms_of" = true) (k2 : PySem.W.keepIn K (.ref f2) = true)
    (a3 : PySem.W.nsIn K mainGlobals "cut" = some (some (.ref f3))) (l3 : K.lookup f3 = some ⟨oc3, od3, .func (PySem.W.fnOf "cut" "cut" (defArgs s_cut) (defBody s_cut) (defScope s_cut) .none kV3 dc3 pm3 an3 cd3 ct3), sl3⟩) (c3 : PySem.W.codeIn K cd3 "cut" = true) (k3 : PySem.W.keepIn K (.ref f3) = true)
    (a4 : PySem.W.nsIn K mainGlobals "_law_state" = some (some (.ref f4))) (l4 : K.lookup f4 = some ⟨oc4, od4, .func (PySem.W.fnOf "_law_state" "_law_state" (defArgs s_law_state) (defBody s_law_state) (defScope s_law_state) .none kV4 dc4 pm4 an4 cd4 ct4), sl4⟩) (c4 : PySem.W.codeIn K cd4 "_law_state" = true) (k4 : PySem.W.keepIn K (.ref f4) = true)
    (a5 : PySem.W.nsIn K mainGlobals "_law_draw" = some (some (.ref f5))) (l5 : K.lookup f5 = some ⟨oc5, od5, .func (PySem.W.fnOf "_law_draw" "_law_draw" (defArgs s_law_draw) (defBody s_law_draw) (defScope s_law_draw) .none kV5 dc5 pm5 an5 cd5 ct5), sl5⟩) (c5 : PySem.W.codeIn K cd5 "_law_draw" = true) (k5 : PySem.W.keepIn K (.ref f5) = true)
    (a6 : PySem.W.nsIn K mainGlobals "_law_pick" = some (some (.ref f6))) (l6 : K.lookup f6 = some ⟨oc6, od6, .func (PySem.W.fnOf "_law_pick" "_law_pick" (defArgs s_law_pick) (defBody s_law_pick) (defScope s_law_pick) .none kV6 dc6 pm6 an6 cd6 ct6), sl6⟩) (c6 : PySem.W.codeIn K cd6 "_law_pick" = true) (k6 : PySem.W.keepIn K (.ref f6) = true)
    (a7 : PySem.W.nsIn K mainGlobals "_law_number" = some (some (.ref f7))) (l7 : K.lookup f7 = some ⟨oc7, od7, .func (PySem.W.fnOf "_law_number" "_law_number" (defArgs s_law_number) (defBody s_law_number) (defScope s_law_number) .none kV7 dc7 pm7 an7 cd7 ct7), sl7⟩) (c7 : PySem.W.codeIn K cd7 "_law_number" = true) (k7 : PySem.W.keepIn K (.ref f7) = true)
    (a8 : PySem.W.nsIn K mainGlobals "_law_kind" = some (some (.ref f8))) (l8 : K.lookup f8 = some ⟨oc8, od8, .func (PySem.W.fnOf "_law_kind" "_law_kind" (defArgs s_law_kind) (defBody s_law_kind) (defScope s_law_kind) .none kV8 dc8 pm8 an8 cd8 ct8), sl8⟩) (c8 : PySem.W.codeIn K cd8 "_law_kind" = true) (k8 : PySem.W.keepIn K (.ref f8) = true)
    (a9 : PySem.W.nsIn K mainGlobals "_law_value" = some (some (.ref f9))) (l9 : K.lookup f9 = some ⟨oc9, od9, .func (PySem.W.fnOf "_law_value" "_law_value" (defArgs s_law_value) (defBody s_law_value) (defScope s_law_value) .none kV9 dc9 pm9 an9 cd9 ct9), sl9⟩) (c9 : PySem.W.codeIn K cd9 "_law_value" = true) (k9 : PySem.W.keepIn K (.ref f9) = true)
    (a10 : PySem.W.nsIn K mainGlobals "_law_lanes" = some (some (.ref f10))) (l10 : K.lookup f10 = some ⟨oc10, od10, .func (PySem.W.fnOf "_law_lanes" "_law_lanes" (defArgs s_law_lanes) (defBody s_law_lanes) (defScope s_law_lanes) .none kV10 dc10 pm10 an10 cd10 ct10), sl10⟩) (c10 : PySem.W.codeIn K cd10 "_law_lanes" = true) (k10 : PySem.W.keepIn K (.ref f10) = true)
    (a11 : PySem.W.nsIn K mainGlobals "_law_spoil" = some (some (.ref f11))) (l11 : K.lookup f11 = some ⟨oc11, od11, .func (PySem.W.fnOf "_law_spoil" "_law_spoil" (defArgs s_law_spoil) (defBody s_law_spoil) (defScope s_law_spoil) .none kV11 dc11 pm11 an11 cd11 ct11), sl11⟩) (c11 : PySem.W.codeIn K cd11 "_law_spoil" = true) (k11 : PySem.W.keepIn K (.ref f11) = true)
    (a12 : PySem.W.nsIn K mainGlobals "law" = some (some (.ref f12))) (l12 : K.lookup f12 = some ⟨oc12, od12, .func (PySem.W.fnOf "law" "law" (defArgs s_law) (defBody s_law) (defScope s_law) .none kV12 dc12 pm12 an12 cd12 ct12), sl12⟩) (c12 : PySem.W.codeIn K cd12 "law" = true) (k12 : PySem.W.keepIn K (.ref f12) = true)
    (b0 : PySem.W.nsIn K mainGlobals "len" = some none)
    (b1 : PySem.W.nsIn K mainGlobals "abs" = some none)
    (b2 : PySem.W.nsIn K mainGlobals "int" = some none)
    (b3 : PySem.W.nsIn K mainGlobals "list" = some none)
    (b4 : PySem.W.nsIn K mainGlobals "zip" = some none)
    (b5 : PySem.W.nsIn K mainGlobals "reversed" = some none)
    (b6 : PySem.W.nsIn K mainGlobals "range" = some none)
    (b7 : PySem.W.nsIn K mainGlobals "isinstance" = some none)
    (b8 : PySem.W.nsIn K mainGlobals "repr" = some none)
    (b9 : PySem.W.nsIn K mainGlobals "tuple" = some none)
    : ∃ fd : FuncData, (∀ (s : Shared) (v : Value), BindsTo s fd ⟨[v], []⟩ [("script", v)]) ∧ ∀ base : Heap, K.In base → base.Ns mainGlobals mg → GX.FnG l.prog w K mg base (CX0) 12 fa fd ["script"] (spLaw K) := by
  have e := hfa.symm.trans (PySem.W.mg_of X G a12)
  cases e
  have F0 := fun_mk (st := s_vectors_of) l0 c0 k0
  have B0 := F0.binds (ps := ["kind", "values"]) fun _ _ _ _ _ _ us hl => match us, hl with | [_, _], _ => rfl
  have F1 := fun_mk (st := s_values_of) l1 c1 k1
  have B1 := F1.binds (ps := ["kind", "vectors"]) fun _ _ _ _ _ _ us hl => match us, hl with | [_, _], _ => rfl
  have F2 := fun_mk (st := s_forms_of) l2 c2 k2
  have B2 := F2.binds (ps := ["kind"]) fun _ _ _ _ _ _ us hl => match us, hl with | [_], _ => rfl
  have F3 := fun_mk (st := s_cut) l3 c3 k3
  have B3 := F3.binds (ps := ["values", "lengths"]) fun _ _ _ _ _ _ us hl => match us, hl with | [_, _], _ => rfl
  have F4 := fun_mk (st := s_law_state) l4 c4 k4
  have B4 := F4.binds (ps := ["script"]) fun _ _ _ _ _ _ us hl => match us, hl with | [_], _ => rfl
  have F5 := fun_mk (st := s_law_draw) l5 c5 k5
  have B5 := F5.binds (ps := ["state", "many"]) fun _ _ _ _ _ _ us hl => match us, hl with | [_, _], _ => rfl
  have F6 := fun_mk (st := s_law_pick) l6 c6 k6
  have B6 := F6.binds (ps := ["state", "row"]) fun _ _ _ _ _ _ us hl => match us, hl with | [_, _], _ => rfl
  have F7 := fun_mk (st := s_law_number) l7 c7 k7
  have B7 := F7.binds (ps := ["state"]) fun _ _ _ _ _ _ us hl => match us, hl with | [_], _ => rfl
  have F8 := fun_mk (st := s_law_kind) l8 c8 k8
  have B8 := F8.binds (ps := ["state", "deep"]) fun _ _ _ _ _ _ us hl => match us, hl with | [_, _], _ => rfl
  have F9 := fun_mk (st := s_law_value) l9 c9 k9
  have B9 := F9.binds (ps := ["state", "kind"]) fun _ _ _ _ _ _ us hl => match us, hl with | [_, _], _ => rfl
  have F10 := fun_mk (st := s_law_lanes) l10 c10 k10
  have B10 := F10.binds (ps := ["kind", "values"]) fun _ _ _ _ _ _ us hl => match us, hl with | [_, _], _ => rfl
  have F11 := fun_mk (st := s_law_spoil) l11 c11 k11
  have B11 := F11.binds (ps := ["value"]) fun _ _ _ _ _ _ us hl => match us, hl with | [_], _ => rfl
  have F12 := fun_mk (st := s_law) l12 c12 k12
  have B12 := F12.binds (ps := ["script"]) fun _ _ _ _ _ _ us hl => match us, hl with | [_], _ => rfl
  have T : GTxt K mg ⟨(f0, _), (f1, _), (f2, _), (f3, _), (f4, _), (f5, _), (f6, _), (f7, _), (f8, _), (f9, _), (f10, _), (f11, _), (_, _)⟩ :=
    { vectors_of := ⟨F0, PySem.W.mg_of X G a0, B0⟩,
      values_of := ⟨F1, PySem.W.mg_of X G a1, B1⟩,
      forms_of := ⟨F2, PySem.W.mg_of X G a2, B2⟩,
      cut := ⟨F3, PySem.W.mg_of X G a3, B3⟩,
      law_state := ⟨F4, PySem.W.mg_of X G a4, B4⟩,
      law_draw := ⟨F5, PySem.W.mg_of X G a5, B5⟩,
      law_pick := ⟨F6, PySem.W.mg_of X G a6, B6⟩,
      law_number := ⟨F7, PySem.W.mg_of X G a7, B7⟩,
      law_kind := ⟨F8, PySem.W.mg_of X G a8, B8⟩,
      law_value := ⟨F9, PySem.W.mg_of X G a9, B9⟩,
      law_lanes := ⟨F10, PySem.W.mg_of X G a10, B10⟩,
      law_spoil := ⟨F11, PySem.W.mg_of X G a11, B11⟩,
      law := ⟨F12, PySem.W.mg_of X G a12, B12⟩,
      len := PySem.W.mg_none_of X G b0,
      abs := PySem.W.mg_none_of X G b1,
      int := PySem.W.mg_none_of X G b2,
      list := PySem.W.mg_none_of X G b3,
      zip := PySem.W.mg_none_of X G b4,
      reversed := PySem.W.mg_none_of X G b5,
      range := PySem.W.mg_none_of X G b6,
      isinstance := PySem.W.mg_none_of X G b7,
      repr := PySem.W.mg_none_of X G b8,
      tuple := PySem.W.mg_none_of X G b9 }
  exact ⟨_, fun s v => .of_eq rfl, fun base _ _ => ok_law T⟩
end K5
open PySem PySem.W PyProof.Rows
set_option maxRecDepth 100000 in
set_option maxHeartbeats 0 in
theorem PySem.Challenge.cw_flatsheaves_k05_layouts_holds : PySem.Challenge.rw_flatsheaves_k05_layouts.Holds := by
  w_on; o_law; k_head; (case hw => w_witness2)
  k_fill
  refine GX.walkG (l := PySem.Challenge.rw_flatsheaves_k05_layouts) (n := 63) (k := 12) (x := "script") (cx := fun w => L2.CX0) (sp := fun w => K5.spLaw _) rfl (by decide) rfl ⟨rfl, by decide, by decide⟩ (fun w h Y => PySem.W.kIn_of Y) ?F (fun _ _ a ns hl hS => ⟨a, ns, rfl, hS, hl, fun _ => rfl⟩) fun _ _ _ _ _ z => z
  case F =>
    intro w mg fa h KX G hmg
    refine' K5.all_mk KX G hmg ?hha0 ?hhl0 ?hhc0 ?hhk0 ?hha1 ?hhl1 ?hhc1 ?hhk1 ?hha2 ?hhl2 ?hhc2 ?hhk2 ?hha3 ?hhl3 ?hhc3 ?hhk3 ?hha4 ?hhl4 ?hhc4 ?hhk4 ?hha5 ?hhl5 ?hhc5 ?hhk5 ?hha6 ?hhl6 ?hhc6 ?hhk6 ?hha7 ?hhl7 ?hhc7 ?hhk7 ?hha8 ?hhl8 ?hhc8 ?hhk8 ?hha9 ?hhl9 ?hhc9 ?hhk9 ?hha10 ?hhl10 ?hhc10 ?hhk10 ?hha11 ?hhl11 ?hhc11 ?hhk11 ?hha12 ?hhl12 ?hhc12 ?hhk12 ?hhb0 ?hhb1 ?hhb2 ?hhb3 ?hhb4 ?hhb5 ?hhb6 ?hhb7 ?hhb8 ?hhb9
    (case hha0 => k_is)
    (case hhl0 => k_is)
    (case hhc0 => k_is)
    (case hhk0 => k_is)
    (case hha1 => k_is)
    (case hhl1 => k_is)
    (case hhc1 => k_is)
    (case hhk1 => k_is)
    (case hha2 => k_is)
    (case hhl2 => k_is)
    (case hhc2 => k_is)
    (case hhk2 => k_is)
    (case hha3 => k_is)
    (case hhl3 => k_is)
    (case hhc3 => k_is)
    (case hhk3 => k_is)
    (case hha4 => k_is)
    (case hhl4 => k_is)
    (case hhc4 => k_is)
    (case hhk4 => k_is)
    (case hha5 => k_is)
    (case hhl5 => k_is)
    (case hhc5 => k_is)
    (case hhk5 => k_is)
    (case hha6 => k_is)
    (case hhl6 => k_is)
    (case hhc6 => k_is)
    (case hhk6 => k_is)
    (case hha7 => k_is)
    (case hhl7 => k_is)
    (case hhc7 => k_is)
    (case hhk7 => k_is)
    (case hha8 => k_is)
    (case hhl8 => k_is)
    (case hhc8 => k_is)
    (case hhk8 => k_is)
    (case hha9 => k_is)
    (case hhl9 => k_is)
    (case hhc9 => k_is)
    (case hhk9 => k_is)
    (case hha10 => k_is)
    (case hhl10 => k_is)
    (case hhc10 => k_is)
    (case hhk10 => k_is)
    (case hha11 => k_is)
    (case hhl11 => k_is)
    (case hhc11 => k_is)
    (case hhk11 => k_is)
    (case hha12 => k_is)
    (case hhl12 => k_is)
    (case hhc12 => k_is)
    (case hhk12 => k_is)
    (case hhb0 => k_is)
    (case hhb1 => k_is)
    (case hhb2 => k_is)
    (case hhb3 => k_is)
    (case hhb4 => k_is)
    (case hhb5 => k_is)
    (case hhb6 => k_is)
    (case hhb7 => k_is)
    (case hhb8 => k_is)
    (case hhb9 => k_is)
#print axioms PySem.Challenge.cw_flatsheaves_k05_layouts_holds

