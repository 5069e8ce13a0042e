import PyProof.Rows.All
import Wide.All
import OpenK.AllK
import Wide.FinOn
import HandS.ForMost
import HandS.ForExc
import HandS.Wide
import HandS.ExcIs
import HandS.IsInst
import HandS.CallLocal
import HandS.More
import PySem.Challenge.RW_flatsheaves_k01_numbers
set_option Elab.async false
set_option linter.all false
set_option maxRecDepth 100000
set_option maxHeartbeats 4000000
namespace K1
open PySem PySem.Spec PyProof.Rows L2
def top (i : Nat) : Stmt := PySem.Challenge.pw_flatsheaves_k01_numbers.main.body.getD i (.Pass ⟨0, 0, 0, 0⟩)
abbrev s_wrapped : Stmt := top 7
theorem sc_wrapped : FnScope ["n"] ["n"] (defScope s_wrapped) := ⟨rfl, rfl, rfl, by decide +kernel, rfl, by decide +kernel, by decide +kernel⟩
abbrev s_added : Stmt := top 8
theorem sc_added : FnScope ["a", "b"] ["a", "b"] (defScope s_added) := ⟨rfl, rfl, rfl, by decide +kernel, rfl, by decide +kernel, by decide +kernel⟩
abbrev s_subtracted : Stmt := top 9
theorem sc_subtracted : FnScope ["a", "b"] ["a", "b"] (defScope s_subtracted) := ⟨rfl, rfl, rfl, by decide +kernel, rfl, by decide +kernel, by decide +kernel⟩
abbrev s_multiplied : Stmt := top 10
theorem sc_multiplied : FnScope ["a", "b"] ["a", "b"] (defScope s_multiplied) := ⟨rfl, rfl, rfl, by decide +kernel, rfl, by decide +kernel, by decide +kernel⟩
abbrev s_quotient : Stmt := top 11
theorem sc_quotient : FnScope ["a", "b"] ["a", "b"] (defScope s_quotient) := ⟨rfl, rfl, rfl, by decide +kernel, rfl, by decide +kernel, by decide +kernel⟩
abbrev s_remainder : Stmt := top 12
theorem sc_remainder : FnScope ["a", "b"] ["a", "b"] (defScope s_remainder) := ⟨rfl, rfl, rfl, by decide +kernel, rfl, by decide +kernel, by decide +kernel⟩
abbrev s_smaller : Stmt := top 13
theorem sc_smaller : FnScope ["a", "b"] ["a", "b"] (defScope s_smaller) := ⟨rfl, rfl, rfl, by decide +kernel, rfl, by decide +kernel, by decide +kernel⟩
abbrev s_larger : Stmt := top 14
theorem sc_larger : FnScope ["a", "b"] ["a", "b"] (defScope s_larger) := ⟨rfl, rfl, rfl, by decide +kernel, rfl, by decide +kernel, by decide +kernel⟩
abbrev s_is_less : Stmt := top 15
theorem sc_is_less : FnScope ["a", "b"] ["a", "b"] (defScope s_is_less) := ⟨rfl, rfl, rfl, by decide +kernel, rfl, by decide +kernel, by decide +kernel⟩
abbrev s_is_equal : Stmt := top 16
theorem sc_is_equal : FnScope ["a", "b"] ["a", "b"] (defScope s_is_equal) := ⟨rfl, rfl, rfl, by decide +kernel, rfl, by decide +kernel, by decide +kernel⟩
abbrev s_calculate : Stmt := top 18
theorem sc_calculate : FnScope ["sign", "a", "b", "operation"] ["sign", "a", "b"] (defScope s_calculate) := ⟨rfl, rfl, rfl, by decide +kernel, rfl, by decide +kernel, by decide +kernel⟩
abbrev s_law_state : Stmt := top 20
theorem sc_law_state : FnScope ["script", "seed", "cell"] ["script"] (defScope s_law_state) := ⟨rfl, rfl, rfl, by decide +kernel, rfl, by decide +kernel, by decide +kernel⟩
abbrev s_law_draw : Stmt := top 21
theorem sc_law_draw : FnScope ["state", "many", "cells", "value", "mixed"] ["state", "many"] (defScope s_law_draw) := ⟨rfl, rfl, rfl, by decide +kernel, rfl, by decide +kernel, by decide +kernel⟩
abbrev s_law_pick : Stmt := top 22
theorem sc_law_pick : FnScope ["state", "row"] ["state", "row"] (defScope s_law_pick) := ⟨rfl, rfl, rfl, by decide +kernel, rfl, by decide +kernel, by decide +kernel⟩
abbrev s_law_number : Stmt := top 23
theorem sc_law_number : FnScope ["state", "edges"] ["state"] (defScope s_law_number) := ⟨rfl, rfl, rfl, by decide +kernel, rfl, by decide +kernel, by decide +kernel⟩
abbrev s_law_told : Stmt := top 24
theorem sc_law_told : FnScope ["sign", "a", "b", "e"] ["sign", "a", "b"] (defScope s_law_told) := ⟨rfl, rfl, rfl, by decide +kernel, rfl, by decide +kernel, by decide +kernel⟩
abbrev s_law_due : Stmt := top 25
theorem sc_law_due : FnScope ["sign", "a", "b", "n"] ["sign", "a", "b"] (defScope s_law_due) := ⟨rfl, rfl, rfl, by decide +kernel, rfl, by decide +kernel, by decide +kernel⟩
abbrev s_law : Stmt := top 26
theorem sc_law : FnScope ["script", "state", "rows", "sign", "a", "b", "told", "n"] ["script"] (defScope s_law) := ⟨rfl, rfl, rfl, by decide +kernel, rfl, by decide +kernel, by decide +kernel⟩
/-! ### what stands where -/
structure DefAt (K : PySem.W.Frag) (mg : Str → Option Value) (x : Str) (st : Stmt) (ps : List Str) (f : Addr × FuncData) : Prop where
  F : Fun K x x st f.1 f.2
  g : mg x = some (.ref f.1)
  b : Binds K f.2 ps []
structure Ad where
  wrapped : Addr × FuncData
  added : Addr × FuncData
  subtracted : Addr × FuncData
  multiplied : Addr × FuncData
  quotient : Addr × FuncData
  remainder : Addr × FuncData
  smaller : Addr × FuncData
  larger : Addr × FuncData
  is_less : Addr × FuncData
  is_equal : Addr × FuncData
  calculate : Addr × FuncData
  law_state : Addr × FuncData
  law_draw : Addr × FuncData
  law_pick : Addr × FuncData
  law_number : Addr × FuncData
  law_told : Addr × FuncData
  law_due : Addr × FuncData
  law : Addr × FuncData
  FlatError : Addr
  KindError : Addr
  TrapError : Addr
  OPS : Addr
structure Txt (w : World) (K : PySem.W.Frag) (mg : Str → Option Value) (a : Ad) : Prop where
  wrapped : DefAt K mg "wrapped" s_wrapped ["n"] a.wrapped
  added : DefAt K mg "added" s_added ["a", "b"] a.added
  subtracted : DefAt K mg "subtracted" s_subtracted ["a", "b"] a.subtracted
  multiplied : DefAt K mg "multiplied" s_multiplied ["a", "b"] a.multiplied
  quotient : DefAt K mg "quotient" s_quotient ["a", "b"] a.quotient
  remainder : DefAt K mg "remainder" s_remainder ["a", "b"] a.remainder
  smaller : DefAt K mg "smaller" s_smaller ["a", "b"] a.smaller
  larger : DefAt K mg "larger" s_larger ["a", "b"] a.larger
  is_less : DefAt K mg "is_less" s_is_less ["a", "b"] a.is_less
  is_equal : DefAt K mg "is_equal" s_is_equal ["a", "b"] a.is_equal
  calculate : DefAt K mg "calculate" s_calculate ["sign", "a", "b"] a.calculate
  law_state : DefAt K mg "_law_state" s_law_state ["script"] a.law_state
  law_draw : DefAt K mg "_law_draw" s_law_draw ["state", "many"] a.law_draw
  law_pick : DefAt K mg "_law_pick" s_law_pick ["state", "row"] a.law_pick
  law_number : DefAt K mg "_law_number" s_law_number ["state"] a.law_number
  law_told : DefAt K mg "_law_told" s_law_told ["sign", "a", "b"] a.law_told
  law_due : DefAt K mg "_law_due" s_law_due ["sign", "a", "b"] a.law_due
  law : DefAt K mg "law" s_law ["script"] a.law
  len : mg "len" = none
  abs : mg "abs" = none
  int : mg "int" = none
  min : mg "min" = none
  max : mg "max" = none
  isinstance : mg "isinstance" = none
  bool : mg "bool" = none
  ValueError : mg "ValueError" = none
  gFlatError : mg "FlatError" = some (.ref a.FlatError)
  gKindError : mg "KindError" = some (.ref a.KindError)
  gTrapError : mg "TrapError" = some (.ref a.TrapError)
  xT : PySem.W.excIn K a.TrapError [.type "ValueError", .type "Exception", .type "BaseException", .type "object"] "ValueError.__new__" = true
  kT : PySem.W.keepIn K (.ref a.TrapError) = true
  bT : PySem.W.subIn K (.ref a.TrapError) (.type "BaseException") = some true
  tT : PySem.W.typeIn K (.ref a.TrapError) = some (.type "type")
  iT : PySem.W.isClsIn K a.TrapError = true
  sT : PySem.W.subIn K (.ref a.TrapError) (.ref a.TrapError) = some true
  eT : ExcC K a.TrapError
  yF : PySem.W.kitOne K (.ref a.TrapError) (.ref a.FlatError) = some true
  yV : PySem.W.kitOne K (.ref a.TrapError) (.type "ValueError") = some true
  yK : PySem.W.kitOne K (.ref a.TrapError) (.ref a.KindError) = some false
  half : ∃ u, mg "HALF" = some u ∧ RelV (.int 2147483648) u
  span : ∃ u, mg "SPAN" = some u ∧ RelV (.int 4294967296) u
  gOP : mg "OPERATIONS" = some (.ref a.OPS)
  o_added : KDct K w a.OPS "+" (.ref a.added.1)
  o_subtracted : KDct K w a.OPS "-" (.ref a.subtracted.1)
  o_multiplied : KDct K w a.OPS "*" (.ref a.multiplied.1)
  o_quotient : KDct K w a.OPS "/" (.ref a.quotient.1)
  o_remainder : KDct K w a.OPS "mod" (.ref a.remainder.1)
  o_smaller : KDct K w a.OPS "min" (.ref a.smaller.1)
  o_larger : KDct K w a.OPS "max" (.ref a.larger.1)
  o_is_less : KDct K w a.OPS "<" (.ref a.is_less.1)
  o_is_equal : KDct K w a.OPS "=" (.ref a.is_equal.1)

/-! ### words -/
def InR (n : Int) : Prop := -2147483648 ≤ n ∧ n ≤ 2147483647
def wrap (n : Int) : Int := (n + 2147483648) % 4294967296 - 2147483648
theorem wrap_in (n : Int) : InR (wrap n) := by unfold wrap InR; omega
theorem wrap_id {n : Int} (h : InR n) : wrap n = n := by unfold wrap; unfold InR at h; omega
theorem pe_gv {X : Cx} {x : Str} {v : V} {pos : Pos} (hg : Gl X x) (h : ∃ u, X.mg x = some u ∧ RelV v u) (hd : (x == ("__debug__" : Str)) = false := by decide) : PE X (.Name x pos) (tC v) := by
  obtain ⟨u, a, b⟩ := h
  exact pe_glob hg a b hd
theorem exm_of {K : PySem.W.Frag} {S : Addr} (h1 : PySem.W.subIn K (.ref S) (.type "BaseException") = some true) (h2 : PySem.W.isClsIn K S = true) (h3 : PySem.W.typeIn K (.ref S) = some (.type "type")) (h4 : PySem.W.subIn K (.ref S) (.ref S) = some true) :
    PySem.W.exmOne K (.ref S) (.ref S) = some true := by
  have e1 : (PySem.W.subIn K (.ref S) (.type "BaseException") == some true) = true := by rw [h1] <;> rfl
  have e2 : ((PySem.W.clsIn K S).isSome && PySem.W.typeIn K (.ref S) == some (.type "type")) = true := by
    have h2' : (PySem.W.clsIn K S).isSome = true := h2
    rw [h2', h3] <;> rfl
  show (if (PySem.W.subIn K (.ref S) (.type "BaseException") == some true) = true then (if ((PySem.W.clsIn K S).isSome && PySem.W.typeIn K (.ref S) == some (.type "type")) = true then PySem.W.subIn K (.ref S) (.ref S) else none) else none) = some true
  rw [if_pos e1, if_pos e2]
  exact h4
/-- // by any divisor but 0 of less than 9000 bits -/
def CDivX (_ j : Int) : Prop := j ≠ 0 ∧ j.natAbs.log2 < 9000
theorem op_fdivX {X : Cx} : OpR X (binaryOp .FloorDiv) (rI CDivX fun i j => .int (i.fdiv j)) := opI fun _ _ _ _ _ _ _ hc q => floordiv_int hc.1 q (.inl (PyProof.noPylong_of_log2 hc.2))
theorem divx_ok {i j : Int} (h0 : j ≠ 0) (h : InR j) : CDivX i j := ⟨h0, Nat.lt_of_lt_of_le (PySem.Flt.log2_lt_of (k := 32) (by decide) (by unfold InR at h; omega)) (by decide)⟩
section
variable {P : Program} {w : World} {K : PySem.W.Frag} {mg : Str → Option Value} {base : Heap} {a : Ad}
/-! ### the program -/
def spWrapped : Sp := fun vs H Q _ => ∃ n : Int, vs = [.int n] ∧ Q (.int (wrap n)) H
theorem ok_wrapped (T : Txt w K mg a) : FnOk P w K mg base CX0 1 a.wrapped.1 a.wrapped.2 ["n"] spWrapped := by
  refine T.wrapped.F.ok sc_wrapped (fun vs H Q E h => ?_) (fun cdv A outer s H vs Q E hr h => ?_)
  · obtain ⟨n, rfl, _⟩ := h
    rfl
  obtain ⟨n, rfl, q⟩ := h
  refine ⟨_, (pss_one (ps_ret (pe_op op_sub (pe_op op_mod (pe_op op_add (pv 0) (pe_gv rfl T.half)) (pe_gv rfl T.span)) (pe_gv rfl T.half)))), ?_⟩
  refine ⟨_, rfl, _, _, rfl, rfl, _, _, rfl, rfl, (by show (0 : Int) < 4294967296; decide), _, _, rfl, rfl, q⟩
/-- what a sign means; none: it traps -/
def opI (s : Nat) (i j : Int) : Option Int := match s with
  | 0 => some (i + j)
  | 1 => some (i - j)
  | 2 => some (i * j)
  | 3 => if j = 0 then none else some (i.fdiv j)
  | 4 => if j = 0 then none else some (i.fmod j)
  | 5 => some (if j < i then j else i)
  | 6 => some (if j > i then j else i)
  | 7 => some (if i < j then 1 else 0)
  | _ => some (if i = j then 1 else 0)
def spOp (C : Addr) (s : Nat) : Sp := fun vs H Q E => ∃ i j : Int, vs = [.int i, .int j] ∧ InR i ∧ InR j ∧ (∀ n, opI s i j = some n → Q (.int n) H) ∧ (opI s i j = none → E (.ref C) none H)
theorem ok_added (T : Txt w K mg a) : FnOk P w K mg base (L2.CX P w) 1 a.added.1 a.added.2 ["a", "b"] (spOp a.TrapError 0) := by
  refine T.added.F.okX sc_added (fun vs H Q E h => ?_) (fun cdv A outer s H vs Q E hr h => ?_)
  · obtain ⟨i, j, rfl, _⟩ := h
    rfl
  obtain ⟨i, j, rfl, hi, hj, q, e⟩ := h
  refine ⟨_, (pss_one (ps_ret (pe_op op_add (pv 0) (pv 1)))), ?_⟩
  exact ⟨_, rfl, _, rfl, _, _, rfl, rfl, q _ rfl⟩
theorem ok_subtracted (T : Txt w K mg a) : FnOk P w K mg base (L2.CX P w) 1 a.subtracted.1 a.subtracted.2 ["a", "b"] (spOp a.TrapError 1) := by
  refine T.subtracted.F.okX sc_subtracted (fun vs H Q E h => ?_) (fun cdv A outer s H vs Q E hr h => ?_)
  · obtain ⟨i, j, rfl, _⟩ := h
    rfl
  obtain ⟨i, j, rfl, hi, hj, q, e⟩ := h
  refine ⟨_, (pss_one (ps_ret (pe_op op_sub (pv 0) (pv 1)))), ?_⟩
  exact ⟨_, rfl, _, rfl, _, _, rfl, rfl, q _ rfl⟩
theorem ok_multiplied (T : Txt w K mg a) : FnOk P w K mg base (L2.CX P w) 1 a.multiplied.1 a.multiplied.2 ["a", "b"] (spOp a.TrapError 2) := by
  refine T.multiplied.F.okX sc_multiplied (fun vs H Q E h => ?_) (fun cdv A outer s H vs Q E hr h => ?_)
  · obtain ⟨i, j, rfl, _⟩ := h
    rfl
  obtain ⟨i, j, rfl, hi, hj, q, e⟩ := h
  refine ⟨_, (pss_one (ps_ret (pe_op op_mul (pv 0) (pv 1)))), ?_⟩
  exact ⟨_, rfl, _, rfl, _, _, rfl, rfl, .inl (by unfold InR at hi; omega), q _ rfl⟩
theorem ok_quotient (T : Txt w K mg a) : FnOk P w K mg base (L2.CX P w) 1 a.quotient.1 a.quotient.2 ["a", "b"] (spOp a.TrapError 3) := by
  refine T.quotient.F.okX sc_quotient (fun vs H Q E h => ?_) (fun cdv A outer s H vs Q E hr h => ?_)
  · obtain ⟨i, j, rfl, _⟩ := h
    rfl
  obtain ⟨i, j, rfl, hi, hj, q, e⟩ := h
  refine ⟨_, (pss_cons (ps_if (pt_cmpR op_eq (pv 1) pe_int (nomark _)) (pss_one (ps_raise rfl (takes_of rfl rfl rfl rfl) (pmk_own PySem.F.excBase_ValueError T.xT T.gTrapError T.kT (raises_own T.bT T.tT) rfl))) pss_nil)
  (pss_one (ps_ret (pe_op op_fdivX (pv 0) (pv 1))))), ?_⟩
  refine ⟨_, rfl, rfl, _, rfl, ?_⟩
  refine ite2 (fun c => ?_) (fun c => ?_)
  · have c' : j = 0 := by simpa using c
    exact e (if_pos c')
  · have c' : ¬ j = 0 := fun z => c (by rw [z]; rfl)
    exact ⟨_, rfl, _, rfl, _, _, rfl, rfl, divx_ok c' hj, q _ (if_neg c')⟩
theorem ok_remainder (T : Txt w K mg a) : FnOk P w K mg base (L2.CX P w) 1 a.remainder.1 a.remainder.2 ["a", "b"] (spOp a.TrapError 4) := by
  refine T.remainder.F.okX sc_remainder (fun vs H Q E h => ?_) (fun cdv A outer s H vs Q E hr h => ?_)
  · obtain ⟨i, j, rfl, _⟩ := h
    rfl
  obtain ⟨i, j, rfl, hi, hj, q, e⟩ := h
  refine ⟨_, (pss_cons (ps_if (pt_cmpR op_eq (pv 1) pe_int (nomark _)) (pss_one (ps_raise rfl (takes_of rfl rfl rfl rfl) (pmk_own PySem.F.excBase_ValueError T.xT T.gTrapError T.kT (raises_own T.bT T.tT) rfl))) pss_nil)
  (pss_one (ps_ret (pe_op op_modN (pv 0) (pv 1))))), ?_⟩
  refine ⟨_, rfl, rfl, _, rfl, ?_⟩
  refine ite2 (fun c => ?_) (fun c => ?_)
  · have c' : j = 0 := by simpa using c
    exact e (if_pos c')
  · have c' : ¬ j = 0 := fun z => c (by rw [z]; rfl)
    exact ⟨_, rfl, _, rfl, _, _, rfl, rfl, c', q _ (if_neg c')⟩
theorem ok_smaller (T : Txt w K mg a) : FnOk P w K mg base (L2.CX P w) 1 a.smaller.1 a.smaller.2 ["a", "b"] (spOp a.TrapError 5) := by
  refine T.smaller.F.okX sc_smaller (fun vs H Q E h => ?_) (fun cdv A outer s H vs Q E hr h => ?_)
  · obtain ⟨i, j, rfl, _⟩ := h
    rfl
  obtain ⟨i, j, rfl, hi, hj, q, e⟩ := h
  refine ⟨_, (pss_one (ps_ret (pe_callB (call_min2 rfl) (by rfl) T.min (by decide +kernel) (pa_cons (pv 0) (pa_cons (pv 1) pa_nil))))), ?_⟩
  exact ⟨_, rfl, _, rfl, _, _, rfl, q _ rfl⟩
theorem ok_larger (T : Txt w K mg a) : FnOk P w K mg base (L2.CX P w) 1 a.larger.1 a.larger.2 ["a", "b"] (spOp a.TrapError 6) := by
  refine T.larger.F.okX sc_larger (fun vs H Q E h => ?_) (fun cdv A outer s H vs Q E hr h => ?_)
  · obtain ⟨i, j, rfl, _⟩ := h
    rfl
  obtain ⟨i, j, rfl, hi, hj, q, e⟩ := h
  refine ⟨_, (pss_one (ps_ret (pe_callB (call_max2 rfl) (by rfl) T.max (by decide +kernel) (pa_cons (pv 0) (pa_cons (pv 1) pa_nil))))), ?_⟩
  exact ⟨_, rfl, _, rfl, _, _, rfl, q _ rfl⟩
theorem ok_is_less (T : Txt w K mg a) : FnOk P w K mg base (L2.CX P w) 1 a.is_less.1 a.is_less.2 ["a", "b"] (spOp a.TrapError 7) := by
  refine T.is_less.F.okX sc_is_less (fun vs H Q E h => ?_) (fun cdv A outer s H vs Q E hr h => ?_)
  · obtain ⟨i, j, rfl, _⟩ := h
    rfl
  obtain ⟨i, j, rfl, hi, hj, q, e⟩ := h
  refine ⟨_, (pss_one (ps_ret (pe_ifExp (pt_cmpR op_lt (pv 0) (pv 1) (nomark _)) pe_int pe_int))), ?_⟩
  refine ⟨_, rfl, _, rfl, _, _, rfl, rfl, _, rfl, ?_⟩
  refine ite2 (fun c => ?_) (fun c => ?_)
  · exact q _ (congrArg some (if_pos (of_decide_eq_true c)))
  · exact q _ (congrArg some (if_neg (of_decide_eq_false (Bool.eq_false_iff.mpr c))))
theorem ok_is_equal (T : Txt w K mg a) : FnOk P w K mg base (L2.CX P w) 1 a.is_equal.1 a.is_equal.2 ["a", "b"] (spOp a.TrapError 8) := by
  refine T.is_equal.F.okX sc_is_equal (fun vs H Q E h => ?_) (fun cdv A outer s H vs Q E hr h => ?_)
  · obtain ⟨i, j, rfl, _⟩ := h
    rfl
  obtain ⟨i, j, rfl, hi, hj, q, e⟩ := h
  refine ⟨_, (pss_one (ps_ret (pe_ifExp (pt_cmpR op_eq (pv 0) (pv 1) (nomark _)) pe_int pe_int))), ?_⟩
  refine ⟨_, rfl, _, rfl, rfl, _, rfl, ?_⟩
  refine ite2 (fun c => ?_) (fun c => ?_)
  · exact q _ (congrArg some (if_pos (V.int.inj (of_decide_eq_true c))))
  · exact q _ (congrArg some (if_neg fun z => of_decide_eq_false (Bool.eq_false_iff.mpr c) (congrArg V.int z)))
def sgn : List Str := ["+", "-", "*", "/", "mod", "min", "max", "<", "="]
def spCalc (C : Addr) : Sp := fun vs H Q E => ∃ (k : Nat) (s : Str) (i j : Int), vs = [.str s, .int i, .int j] ∧ sgn[k]? = some s ∧ InR i ∧ InR j ∧ (∀ n, opI k i j = some n → Q (.int (wrap n)) H) ∧ (opI k i j = none → E (.ref C) none H)
theorem calc_of (T : Txt w K mg a) {k : Nat} {s : Str} {i j : Int} {f : Addr × FuncData} {x : Str} {st : Stmt} (F : Fun K x x st f.1 f.2) (b : Binds K f.2 ["a", "b"] []) (G : FnOk P w K mg base (L2.CX P w) 1 f.1 f.2 ["a", "b"] (spOp a.TrapError k)) (ho : KDct K w a.OPS s (.ref f.1))
    (hi : InR i) (hj : InR j) {cdv : Value} {A : Around} {outer : List Env} {sh : Shared} {H : Hp} {Q : VK} {E : XK} (hr : Room 1 (A.deeper (envOfC "calculate" (defScope s_calculate) sh.heap.objs.size a.calculate.1 cdv)))
    (q : ∀ n, opI k i j = some n → Q (.int (wrap n)) H) (e : opI k i j = none → E (.ref a.TrapError) none H) :
    ∃ t, PSs (cxOf (L2.CX P w) P w K mg base ["sign", "a", "b", "operation"] "calculate" (defScope s_calculate) a.calculate.1 cdv A outer sh H E) (defBody s_calculate) t ∧ t { nx := fun _ H' => Q .non H', rt := Q } (start ["sign", "a", "b", "operation"] [.str s, .int i, .int j]) H := by
  have nd := sc_calculate.nd
  have G_wrapped : FnOk P w K mg base CX0 1 a.wrapped.1 a.wrapped.2 ["n"] spWrapped := ok_wrapped T
  refine ⟨_, (pss_cons (ps_set (i := 3) nd rfl (Or.inl rfl) (pe_ix ix_kdict (pe_glob (v := .ref a.OPS) rfl T.gOP rfl) (pv 0) (fun _ _ => rfl)))
  (pss_one (ps_ret (pe_call G_wrapped (hr.mono (by decide)) rfl T.wrapped.g T.wrapped.F.kp T.wrapped.b .nil pass0 (pa_cons (pe_callL (i := 3) G hr rfl (.inl rfl) F.kp b .nil (passes_call (takes_of rfl rfl rfl rfl) (fun _ _ _ _ h => h)) (pa_cons (pv 1) (pa_cons (pv 2) pa_nil))) pa_nil))))), ?_⟩
  exact ⟨_, rfl, a.OPS, s, _, rfl, rfl, ho, rfl, _, rfl, _, rfl, i, j, rfl, hi, hj, fun n en => ⟨n, rfl, q n en⟩, e⟩
theorem ok_calculate (T : Txt w K mg a) : FnOk P w K mg base (L2.CX P w) 2 a.calculate.1 a.calculate.2 ["sign", "a", "b"] (spCalc a.TrapError) := by
  refine T.calculate.F.okX sc_calculate (fun vs H Q E h => ?_) (fun cdv A outer s H vs Q E hr h => ?_)
  · obtain ⟨k, s, i, j, rfl, _⟩ := h
    rfl
  obtain ⟨k, s, i, j, rfl, hk, hi, hj, q, e⟩ := h
  match k, hk, q, e with
  | 0, hk, q, e =>
    obtain rfl : ("+" : Str) = _ := Option.some.inj hk
    exact calc_of T T.added.F T.added.b (ok_added T) T.o_added hi hj hr q e
  | 1, hk, q, e =>
    obtain rfl : ("-" : Str) = _ := Option.some.inj hk
    exact calc_of T T.subtracted.F T.subtracted.b (ok_subtracted T) T.o_subtracted hi hj hr q e
  | 2, hk, q, e =>
    obtain rfl : ("*" : Str) = _ := Option.some.inj hk
    exact calc_of T T.multiplied.F T.multiplied.b (ok_multiplied T) T.o_multiplied hi hj hr q e
  | 3, hk, q, e =>
    obtain rfl : ("/" : Str) = _ := Option.some.inj hk
    exact calc_of T T.quotient.F T.quotient.b (ok_quotient T) T.o_quotient hi hj hr q e
  | 4, hk, q, e =>
    obtain rfl : ("mod" : Str) = _ := Option.some.inj hk
    exact calc_of T T.remainder.F T.remainder.b (ok_remainder T) T.o_remainder hi hj hr q e
  | 5, hk, q, e =>
    obtain rfl : ("min" : Str) = _ := Option.some.inj hk
    exact calc_of T T.smaller.F T.smaller.b (ok_smaller T) T.o_smaller hi hj hr q e
  | 6, hk, q, e =>
    obtain rfl : ("max" : Str) = _ := Option.some.inj hk
    exact calc_of T T.larger.F T.larger.b (ok_larger T) T.o_larger hi hj hr q e
  | 7, hk, q, e =>
    obtain rfl : ("<" : Str) = _ := Option.some.inj hk
    exact calc_of T T.is_less.F T.is_less.b (ok_is_less T) T.o_is_less hi hj hr q e
  | 8, hk, q, e =>
    obtain rfl : ("=" : Str) = _ := Option.some.inj hk
    exact calc_of T T.is_equal.F T.is_equal.b (ok_is_equal T) T.o_is_equal hi hj hr q e
  | _ + 9, hk, _, _ => exact absurd hk (by simp [sgn])

/-! ### the law's own defs -/
def StAt (H : Hp) (st c : Addr) : Prop := ∃ (ns : List Int) (z : Int), H st = some (.lst [.ref c, .int z]) ∧ H c = some (.lst (ns.map V.int))
theorem StAt.ne {H : Hp} {st c : Addr} (h : StAt H st c) : st ≠ c := by
  obtain ⟨ns, z, h1, h2⟩ := h
  refine ne_of h1 h2 fun e => ?_
  cases ns with
  | nil => cases e
  | cons x r => cases e
def Go (st c : Addr) (H H' : Hp) : Prop := (∀ b o, b ≠ st → b ≠ c → H b = some o → H' b = some o) ∧ StAt H' st c
theorem Go.trans {st c : Addr} {H H1 H2 : Hp} (x : Go st c H H1) (y : Go st c H1 H2) : Go st c H H2 := ⟨fun b o h1 h2 e => y.1 b o h1 h2 (x.1 b o h1 h2 e), y.2⟩
theorem same_new {H : Hp} {p : Addr} (h : H p = none) (o : HO) : Same H (upd H p o) := fun b u q => by rw [upd_ne (ne_of_none q h)]; exact q
theorem StAt.keep {H H' : Hp} {st c : Addr} (h : StAt H st c) (k : Same H H') : StAt H' st c := by
  obtain ⟨ns, z, h1, h2⟩ := h
  exact ⟨ns, z, k _ _ h1, k _ _ h2⟩
theorem Go.same {st c : Addr} {H H1 : Hp} (h : StAt H st c) (k : Same H H1) : Go st c H H1 := ⟨fun b o _ _ e => k b o e, h.keep k⟩
theorem ifF {c : Bool} {A B : Prop} (h : c = false) (q : B) : if c = true then A else B := by rw [h]; exact iteF q
theorem ifT {c : Bool} {A B : Prop} (h : c = true) (q : A) : if c = true then A else B := by rw [h]; exact iteT q
theorem int_at {ns : List Int} {i : Nat} {y : V} (h : (ns.map V.int)[i]? = some y) : i < ns.length ∧ ∃ u, y = V.int u := by
  rw [List.getElem?_map] at h
  cases e : ns[i]? with
  | none => rw [e] at h; cases h
  | some u =>
    rw [e] at h
    exact ⟨(List.getElem?_eq_some_iff.mp e).1, u, (Option.some.inj h).symm⟩
def spState (K : PySem.W.Frag) : Sp := fun vs H Q _ => ∃ (p : Addr) (ns : List Int), vs = [.ref p] ∧ SqL K H p (ns.map V.int) ∧ ns.length ≤ 63 ∧ ∀ H' st c, Same H H' → H st = none → H c = none → StAt H' st c → Q (.ref st) H'
theorem ok_law_state (T : Txt w K mg a) : FnOk P w K mg base CX0 1 a.law_state.1 a.law_state.2 ["script"] (spState K) := by
  refine T.law_state.F.ok sc_law_state (fun vs H Q E h => ?_) (fun cdv A outer s H vs Q E hr h => ?_)
  · obtain ⟨p, ns, rfl, _⟩ := h
    rfl
  obtain ⟨p, ns, rfl, hS, h63, q⟩ := h
  have nd := sc_law_state.nd
  refine ⟨_, (pss_cons (ps_set (i := 1) nd rfl (Or.inl rfl) pe_int)
  (pss_cons (ps_for PassesOwn.never rfl (pi_list (pv 0)) (pg_name (i := 2) nd rfl (Or.inl rfl)) (pss_one (ps_set (i := 1) nd rfl (Or.inl rfl) (pe_op op_mod (pe_callTy call_int1 (by rfl) T.int (by decide +kernel) (pa_cons (pe_op op_add (pe_op op_mul (pv 1) pe_int) (pv 2)) pa_nil)) pe_int))))
  (pss_one (ps_ret (pe_lst (pa_cons (pe_lc (own := [("cell", 2)]) (g := gName 2) (tt := tYes) rfl nd (pi_list (pv 0)) (blkOk_by (N := ["script", "seed", "cell"]) (sc := defScope s_law_state) (by decide +kernel)) (fun _ _ _ _ _ => (pg_name (i := 2) nd rfl (Or.inl rfl))) (fun _ _ _ _ _ => pts_nil) (fun _ _ _ _ _ => (pe_callB call_abs (by rfl) T.abs (by decide +kernel) (pa_cons (pe_callTy call_int1 (by rfl) T.int (by decide +kernel) (pa_cons (pv 2) pa_nil)) pa_nil)))) (pa_cons (pe_op op_add (pv 1) pe_int) pa_nil))))))), ?_⟩
  refine ⟨_, rfl, p, rfl, ⟨_, hS⟩, for_list (K := K) (a := p) (xs := ns.map V.int) (fun i σ H' => H' = H ∧ ∃ (z : Int) (v : Option V), σ = [some (.ref p), some (.int z), v]) ⟨rfl, 7, none, rfl⟩ (fun i σ H' _ h => by rw [h.1]; exact hS) ?_ ?_⟩
  · rintro i y σ H' hi ⟨rfl, z, v, rfl⟩
    obtain ⟨_, u, rfl⟩ := int_at hi
    exact ⟨_, rfl, _, _, rfl, rfl, .inr (by decide), _, rfl, _, _, rfl, rfl, .inl ⟨_, rfl, _, _, rfl, rfl, (by show (0 : Int) < 1000003; decide), rfl, _, _, rfl⟩⟩
  · rintro σ H' ⟨rfl, z, v, rfl⟩
    refine ⟨_, rfl, p, rfl, ⟨_, hS⟩, fun D hD => lc_list (K := K) (a := p) (xs := ns.map V.int) (fun i H1 => ∃ acc : List Int, H1 = upd H' D (.lst (acc.map V.int)) ∧ acc.length = i) ⟨[], rfl, rfl⟩ (fun i H1 _ h => ?_) ?_ ?_⟩
    · obtain ⟨acc, rfl, _⟩ := h
      exact (same_new hD _).seq hS
    · rintro i y H1 hi ⟨acc, rfl, hl⟩
      obtain ⟨hi63, u, rfl⟩ := int_at hi
      refine ⟨rfl, _, rfl, .inl ⟨_, rfl, _, rfl, _, upd_same, ?_, acc ++ [if u < 0 then -u else u], ?_, ?_⟩⟩
      · rw [List.length_map]; exact small1000 (by omega)
      · rw [List.map_append, upd_upd]; rfl
      · rw [List.length_append, hl]; rfl
    · rintro H1 ⟨acc, rfl, _⟩
      refine ⟨_, rfl, _, _, rfl, rfl, (by show 2 ≤ sizeLine; decide), fun st hst => ?_⟩
      have hst0 : H' st = none := (same_new hD _).free hst
      refine q _ st D ((same_new hD _).trans (same_new hst _)) hst0 hD ⟨acc, z + 1, upd_same, ?_⟩
      rw [upd_ne (ne_of_none upd_same hst)]
      exact upd_same
def spDraw : Sp := fun vs H Q _ => ∃ (st c : Addr) (m : Int), vs = [.ref st, .int m] ∧ StAt H st c ∧ 0 < m ∧ m < 1099511627776 ∧ ∀ H' n, Go st c H H' → 0 ≤ n → n < m → Q (.int n) H'
theorem ok_law_draw (T : Txt w K mg a) : FnOk P w K mg base CX0 1 a.law_draw.1 a.law_draw.2 ["state", "many"] spDraw := by
  refine T.law_draw.F.ok sc_law_draw (fun vs H Q E h => ?_) (fun cdv A outer s H vs Q E hr h => ?_)
  · obtain ⟨st, c, m, rfl, _⟩ := h
    rfl
  obtain ⟨st, c, m, rfl, hSt, h0, hm, q⟩ := h
  have nd := sc_law_draw.nd
  have hne := hSt.ne
  obtain ⟨ns, z, h1, h2⟩ := hSt
  refine ⟨_, (pss_cons (ps_set (i := 2) nd rfl (Or.inl rfl) (pe_ix ix_list (pv 0) pe_int (fun _ _ => rfl)))
  (pss_cons (ps_while PassesOwn.never (PW.pt (pw_and (pt_cmpR op_gt (pe_callB call_len_seq (by rfl) T.len PySem.boot_len (pa_cons (pv 2) pa_nil)) pe_int (nomark _)) (pw_and1 (pt_cmpR op_eq (pe_ix ix_list (pv 2) pe_int (fun _ _ => rfl)) pe_int (nomark _))))) (pss_one (ps_expr (pe_bm PySem.F.plainAttrs_list PySem.F.slot_list_pop PySem.F.type_list_pop mt_popAt (pv 2) (pa_cons pe_int pa_nil)))))
  (pss_cons (ps_if (pt_cmpR op_gt (pe_callB call_len_seq (by rfl) T.len PySem.boot_len (pa_cons (pv 2) pa_nil)) pe_int (nomark _)) (pss_cons (ps_set (i := 3) nd rfl (Or.inl rfl) (pe_ix ix_list (pv 2) pe_int (fun _ _ => rfl)))
  (pss_cons (ps_asg (pe_op op_fdivW (pv 3) (pv 1)) (pg_sub (pv 2) pe_int set_list))
  (pss_one (ps_ret (pe_op op_mod (pe_callTy call_int1 (by rfl) T.int (by decide +kernel) (pa_cons (pv 3) pa_nil)) (pv 1)))))) pss_nil)
  (pss_cons (ps_set (i := 4) nd rfl (Or.inl rfl) (pe_op op_mod (pe_callTy call_int1 (by rfl) T.int (by decide +kernel) (pa_cons (pe_op op_add (pe_op op_mul (pe_ix ix_list (pv 0) pe_int (fun _ _ => rfl)) pe_int) pe_int) pa_nil)) pe_int))
  (pss_cons (ps_asg (pv 4) (pg_sub (pv 0) pe_int set_list))
  (pss_one (ps_ret (pe_op op_mod (pe_callTy call_int1 (by rfl) T.int (by decide +kernel) (pa_cons (pe_op op_fdiv (pv 4) pe_int) pa_nil)) (pv 1))))))))), ?_⟩
  refine ⟨_, rfl, st, _, _, _, rfl, rfl, SqL.of h1, rfl, ?_⟩
  refine ⟨fun k σ H' => ∃ ns' : List Int, σ = [some (.ref st), some (.int m), some (.ref c), none, none] ∧ k = ns'.length ∧ H' st = some (.lst [.ref c, .int z]) ∧ H' c = some (.lst (ns'.map V.int)) ∧ (∀ b o, b ≠ st → b ≠ c → H b = some o → H' b = some o), ⟨ns.length, ns, rfl, rfl, h1, h2, fun _ _ _ _ e => e⟩, ?_⟩
  rintro k σ H' ⟨ns', rfl, rfl, g1, g2, g3⟩
  have fin : ∀ (ns2 : List Int) (z2 : Int) (H2 : Hp), H2 st = some (.lst [.ref c, .int z2]) → H2 c = some (.lst (ns2.map V.int)) → (∀ b o, b ≠ st → b ≠ c → H' b = some o → H2 b = some o) → Go st c H H2 := fun ns2 z2 H2 e1 e2 e3 => ⟨fun b o n1 n2 e => e3 b o n1 n2 (g3 b o n1 n2 e), ns2, z2, e1, e2⟩
  refine ⟨_, rfl, c, _, rfl, .inl (SqL.of g2), _, _, rfl, rfl, _, rfl, ?_⟩
  cases ns' with
  | nil =>
    refine ifF (by rw [List.map_nil]; decide) ?_
    refine ifF rfl ?_
    refine ⟨_, rfl, c, _, rfl, .inl (SqL.of g2), _, _, rfl, rfl, _, rfl, ?_⟩
    refine ifF (by rw [List.map_nil]; decide) ?_
    refine ⟨_, rfl, st, _, _, _, rfl, rfl, SqL.of g1, rfl, _, _, rfl, rfl, .inr (by decide), _, _, rfl, rfl, .inl ⟨_, rfl, _, _, rfl, rfl, (by show (0 : Int) < 2147483647; decide), ?_⟩⟩
    refine ⟨_, rfl, _, rfl, st, _, _, _, rfl, rfl, g1, rfl, ?_⟩
    refine ⟨_, rfl, _, _, rfl, rfl, (by constructor <;> decide), .inl ⟨_, rfl, _, rfl, _, _, rfl, rfl, h0, ?_⟩⟩
    refine q _ _ (fin [] _ _ upd_same ?_ fun b o n1 _ e => ?_) (Int.emod_nonneg _ (by omega)) (Int.emod_lt_of_pos _ h0)
    · rw [upd_ne hne.symm]; exact g2
    · rw [upd_ne n1]; exact e
  | cons x r =>
    refine ifT (by rw [List.length_map]; exact decide_eq_true (by simp)) ?_
    refine ⟨_, rfl, c, _, _, _, rfl, rfl, SqL.of g2, atI_nat (j := 0) rfl, rfl, _, rfl, ?_⟩
    refine ite2 (fun _ => ?_) (fun _ => ?_)
    · refine ⟨fun σ' H2 => ∃ ns2 : List Int, σ' = [some (.ref st), some (.int m), some (.ref c), none, none] ∧ ns2.length = r.length ∧ H2 st = some (.lst [.ref c, .int z]) ∧ H2 c = some (.lst (ns2.map V.int)) ∧ (∀ b o, b ≠ st → b ≠ c → H b = some o → H2 b = some o), ?_, ?_⟩
      · rintro σ' H2 ⟨ns2, e1, e2, e3⟩
        exact ⟨r.length, by rw [List.length_cons]; omega, ns2, e1, e2.symm, e3⟩
      · refine ⟨_, rfl, .inl ⟨rfl, _, SqL.of g2⟩, c, _, _, 0, _, rfl, rfl, g2, by decide, by decide, ?_, rfl, ?_⟩
        · rw [List.length_map, List.length_cons]
          unfold seqIndex?
          simp
        · refine ⟨r, rfl, rfl, ?_, upd_same, fun b o n1 n2 e => ?_⟩
          · rw [upd_ne hne]; exact g1
          · rw [upd_ne n2]; exact g3 b o n1 n2 e
    · refine ⟨_, rfl, c, _, rfl, .inl (SqL.of g2), _, _, rfl, rfl, _, rfl, ?_⟩
      refine ifT (by rw [List.length_map]; exact decide_eq_true (by simp)) ?_
      refine ⟨_, rfl, c, _, _, _, rfl, rfl, SqL.of g2, atI_nat (j := 0) rfl, ?_⟩
      refine ⟨_, rfl, _, rfl, _, _, rfl, rfl, wide_div (b := 40) h0 (by omega) (by decide) (by decide), ?_⟩
      refine ⟨_, rfl, c, _, _, 0, rfl, rfl, g2, by rw [List.length_map, List.length_cons]; simp [ixN], ?_⟩
      refine ⟨_, rfl, .inl ⟨_, rfl, _, rfl, _, _, rfl, rfl, h0, ?_⟩⟩
      refine q _ _ (fin (x / m :: r) z _ ?_ upd_same fun b o _ n2 e => ?_) (Int.emod_nonneg _ (by omega)) (Int.emod_lt_of_pos _ h0)
      · rw [upd_ne hne]; exact g1
      · rw [upd_ne n2]; exact e
def spPick : Sp := fun vs H Q _ => ∃ (st c r : Addr) (xs : List V), vs = [.ref st, .ref r] ∧ StAt H st c ∧ H r = some (.lst xs) ∧ r ≠ st ∧ r ≠ c ∧ 0 < xs.length ∧ xs.length ≤ 1000 ∧ ∀ H' x, Go st c H H' → x ∈ xs → Q x H'
theorem ok_law_pick (T : Txt w K mg a) : FnOk P w K mg base CX0 2 a.law_pick.1 a.law_pick.2 ["state", "row"] spPick := by
  refine T.law_pick.F.ok sc_law_pick (fun vs H Q E h => ?_) (fun cdv A outer s H vs Q E hr h => ?_)
  · obtain ⟨st, c, r, xs, rfl, _⟩ := h
    rfl
  obtain ⟨st, c, r, xs, rfl, hSt, hx, n1, n2, l0, l1, q⟩ := h
  have G_law_draw := ok_law_draw (P := P) (w := w) (base := base) T
  refine ⟨_, (pss_one (ps_ret (pe_ix ix_list (pv 1) (pe_call G_law_draw (hr.mono (by decide)) rfl T.law_draw.g T.law_draw.F.kp T.law_draw.b .nil pass0 (pa_cons (pv 0) (pa_cons (pe_callB call_len_seq (by rfl) T.len PySem.boot_len (pa_cons (pv 1) pa_nil)) pa_nil))) (fun _ _ => rfl)))), ?_⟩
  refine ⟨_, rfl, _, rfl, _, rfl, r, _, rfl, .inl (SqL.of hx), st, c, _, rfl, hSt, by omega, by omega, fun H' n g h0 h1 => ?_⟩
  have hk : n.toNat < xs.length := by omega
  have ek : n = ((n.toNat : Nat) : Int) := by omega
  refine ⟨r, xs, n, xs[n.toNat], rfl, rfl, SqL.of (g.1 _ _ n1 n2 hx), ?_, q _ _ g (List.getElem_mem hk)⟩
  have e : atI xs ((n.toNat : Nat) : Int) = some xs[n.toNat] := atI_nat (List.getElem?_eq_getElem hk)
  rw [← ek] at e
  exact e
def spNumber : Sp := fun vs H Q _ => ∃ (st c : Addr), vs = [.ref st] ∧ StAt H st c ∧ ∀ H' n, Go st c H H' → InR n → Q (.int n) H'
theorem ok_law_number (T : Txt w K mg a) : FnOk P w K mg base CX0 3 a.law_number.1 a.law_number.2 ["state"] spNumber := by
  refine T.law_number.F.ok sc_law_number (fun vs H Q E h => ?_) (fun cdv A outer s H vs Q E hr h => ?_)
  · obtain ⟨st, c, rfl, _⟩ := h
    rfl
  obtain ⟨st, c, rfl, hSt, q⟩ := h
  have G_law_draw := ok_law_draw (P := P) (w := w) (base := base) T
  have G_law_pick := ok_law_pick (P := P) (w := w) (base := base) T
  have nd := sc_law_number.nd
  refine ⟨_, (pss_cons (ps_set (i := 1) nd rfl (Or.inl rfl) (pe_lst (pa_cons pe_int (pa_cons (pe_un un_neg pe_int) (pa_cons pe_int (pa_cons (pe_un un_neg pe_int) (pa_cons pe_int pa_nil)))))))
  (pss_cons (ps_if (pt_cmpR op_eq (pe_call G_law_draw (hr.mono (by decide)) rfl T.law_draw.g T.law_draw.F.kp T.law_draw.b .nil pass0 (pa_cons (pv 0) (pa_cons pe_int pa_nil))) pe_int (nomark _)) (pss_one (ps_ret (pe_call G_law_pick (hr.mono (by decide)) rfl T.law_pick.g T.law_pick.F.kp T.law_pick.b .nil pass0 (pa_cons (pv 0) (pa_cons (pv 1) pa_nil))))) pss_nil)
  (pss_one (ps_ret (pe_op op_sub (pe_call G_law_draw (hr.mono (by decide)) rfl T.law_draw.g T.law_draw.F.kp T.law_draw.b .nil pass0 (pa_cons (pv 0) (pa_cons pe_int pa_nil))) pe_int))))), ?_⟩
  refine ⟨_, rfl, _, rfl, (by show 5 ≤ sizeLine; decide), fun p hp => ?_⟩
  have hSt1 := hSt.keep (same_new hp (.lst [.int 0, .int (-1), .int 2147483647, .int (-2147483648), .int 65536]))
  have g0 := Go.same hSt (same_new hp (.lst [.int 0, .int (-1), .int 2147483647, .int (-2147483648), .int 65536]))
  obtain ⟨_, _, a1, a2⟩ := id hSt
  have n1 : p ≠ st := (ne_of_none a1 hp).symm
  have n2 : p ≠ c := (ne_of_none a2 hp).symm
  refine ⟨_, rfl, st, c, _, rfl, hSt1, by decide, by decide, fun H2 n g2 h0 h1 => ?_⟩
  refine ⟨rfl, _, rfl, ?_⟩
  refine ite2 (fun _ => ?_) (fun _ => ?_)
  · refine ⟨_, rfl, _, rfl, st, c, p, _, rfl, g2.2, g2.1 _ _ n1 n2 upd_same, n1, n2, by decide, by decide, fun H3 x g3 hx => ?_⟩
    have g := (g0.trans g2).trans g3
    simp only [List.mem_cons, List.not_mem_nil, or_false] at hx
    rcases hx with rfl | rfl | rfl | rfl | rfl <;> exact q _ _ g (by unfold InR; omega)
  · refine ⟨_, rfl, st, c, _, rfl, g2.2, by decide, by decide, fun H3 x g3 h0 h1 => ?_⟩
    exact ⟨_, _, rfl, rfl, q _ _ ((g0.trans g2).trans g3) (by unfold InR; omega)⟩
def isE (K : PySem.W.Frag) (D b : Addr) (c : V) : TE := tCB (rIsE K D b) (tCons (tVar 3) (tCons (tC c) tNil))
def ts_real (K : PySem.W.Frag) (a : Ad) (b : Addr) : TS := tIfS (tAnd (tB (isE K a.TrapError b (.ref a.FlatError))) (tAnd (tB (isE K a.TrapError b (.ty "ValueError"))) (tNot (tB (isE K a.TrapError b (.ref a.KindError)))))) (tRet (tC (.str "trap"))) tNext
open Classical in
noncomputable def ts_told (K : PySem.W.Frag) (a : Ad) (b : Addr) (cls : Value) (d : Option Addr) : TS := if cls = .ref a.TrapError ∧ d = none then ts_real K a b else tNever
def dueV (k : Nat) (i j : Int) : V := match opI k i j with
  | some n => .int (wrap n)
  | none => .str "trap"
def spTold : Sp := fun vs H Q _ => ∃ (k : Nat) (s : Str) (i j : Int), vs = [.str s, .int i, .int j] ∧ sgn[k]? = some s ∧ InR i ∧ InR j ∧ Q (dueV k i j) H
theorem ok_law_told (T : Txt w K mg a) : FnOk P w K mg base CX0 3 a.law_told.1 a.law_told.2 ["sign", "a", "b"] spTold := by
  refine T.law_told.F.ok sc_law_told (fun vs H Q E h => ?_) (fun cdv A outer s H vs Q E hr h => ?_)
  · obtain ⟨k, s, i, j, rfl, _⟩ := h
    rfl
  obtain ⟨k, s, i, j, rfl, hk, hi, hj, q⟩ := h
  have G_calculate := ok_calculate (P := P) (w := w) (base := base) T
  have nd := sc_law_told.nd
  refine ⟨_, pss_cons (ps_try_as (i := 3) (tb := fun W => tRet (tCallS (spCalc a.TrapError) (WE W) (tCons (tVar 0) (tCons (tVar 1) (tCons (tVar 2) tNil))))) (ts := ts_told K a) (Wout := fun _ _ _ _ => False) rfl rfl nd rfl rfl ⟨rfl, by decide, Or.inl T.gTrapError⟩ takes0
    (fun W pn xe tk _ => pss_one (ps_ret (by exact (pe_callS G_calculate hr rfl T.calculate.g T.calculate.F.kp T.calculate.b (fun σ => passAt tk σ) (by exact (pa_cons (pv 0) (pa_cons (pv 1) (pa_cons (pv 2) pa_nil))))))))
    (fun b oe cls d pn hz hf => by
      unfold ts_told
      by_cases hc : cls = .ref a.TrapError ∧ d = none
      · rw [if_pos hc]
        obtain ⟨rfl, rfl⟩ := hc
        exact (pss_one (ps_if (PW.pt (pw_and (pt_val (pe_callB (call_isE T.eT hz hf) (by rfl) T.isinstance (by decide +kernel) (pa_cons (pv 3) (pa_cons (pe_glob (v := .ref a.FlatError) rfl T.gFlatError rfl) pa_nil)))) (pw_and (pt_val (pe_callB (call_isE T.eT hz hf) (by rfl) T.isinstance (by decide +kernel) (pa_cons (pv 3) (pa_cons (pe_bltn (v := .ty "ValueError") rfl T.ValueError (by decide +kernel) rfl) pa_nil)))) (pw_and1 (pt_not (pt_val (pe_callB (call_isE T.eT hz hf) (by rfl) T.isinstance (by decide +kernel) (pa_cons (pv 3) (pa_cons (pe_glob (v := .ref a.KindError) rfl T.gKindError rfl) pa_nil))))))))) (pss_one (ps_ret pe_str)) pss_nil))
      · rw [if_neg hc]
        exact pss_never)) (pss_one (ps_ret pe_str)), ?_⟩
  refine ⟨_, rfl, _, rfl, _, rfl, k, s, i, j, rfl, hk, hi, hj, fun n en => ?_, fun en => ?_⟩
  · unfold dueV at q
    rw [en] at q
    exact q
  · refine ⟨true, exm_of T.bT T.iT T.tT T.sT, fun _ b hb => ?_, fun z => nomatch z⟩
    show ts_told K a b (.ref a.TrapError) none _ _ _
    unfold ts_told
    rw [if_pos ⟨rfl, rfl⟩]
    refine ⟨_, rfl, _, _, true, rfl, fun u r => r, T.yF, _, rfl, ?_⟩
    refine ⟨_, rfl, _, _, true, rfl, fun u r => r, T.yV, _, rfl, ?_⟩
    refine ⟨_, rfl, _, _, false, rfl, fun u r => r, T.yK, _, rfl, ?_⟩
    refine ifT rfl ?_
    unfold dueV at q
    rw [en] at q
    exact q
/-! ### what is due -/
theorem div_pos {i d : Int} (h1 : -2147483647 ≤ i ∨ True) (hd : 0 < d) (hl : -2147483648 ≤ i) (hu : i < 2147483648 * d) : InR (i / d) := by
  constructor
  · exact (Int.le_ediv_iff_mul_le hd).mpr (by omega)
  · have := (Int.ediv_lt_iff_lt_mul hd).mpr hu
    omega
theorem fdiv_in {i j : Int} (hi : InR i) (hj : InR j) (h0 : j ≠ 0) (h : ¬ (i = -2147483648 ∧ j = -1)) : InR (i.fdiv j) := by
  unfold InR at hi hj
  rcases Int.lt_or_gt_of_ne h0 with hn | hp
  · rw [← Int.neg_fdiv_neg, Int.fdiv_eq_ediv_of_nonneg _ (by omega)]
    exact div_pos (.inr trivial) (by omega) (by omega) (by omega)
  · rw [Int.fdiv_eq_ediv_of_nonneg i (by omega)]
    exact div_pos (.inr trivial) (by omega) (by omega) (by omega)
theorem fmod_in {i j : Int} (hj : InR j) (h0 : j ≠ 0) : InR (i.fmod j) := by
  unfold InR at *
  rcases Int.lt_or_gt_of_ne h0 with hn | hp
  · have e : i.fmod j = -((-i).fmod (-j)) := by rw [Int.neg_fmod_neg, Int.neg_neg]
    have a1 := Int.fmod_nonneg_of_pos (-i) (b := -j) (by omega)
    have a2 := Int.fmod_lt_of_pos (-i) (b := -j) (by omega)
    omega
  · have a1 := Int.fmod_nonneg_of_pos i hp
    have a2 := Int.fmod_lt_of_pos i hp
    omega
theorem due_div0 (i : Int) : dueV 3 i 0 = .str "trap" := rfl
theorem due_mod0 (i : Int) : dueV 4 i 0 = .str "trap" := rfl
theorem due_div {i j : Int} (hi : InR i) (hj : InR j) (h0 : j ≠ 0) (h : ¬ (i = -2147483648 ∧ j = -1)) : dueV 3 i j = .int (i.fdiv j) := by
  have e : opI 3 i j = some (i.fdiv j) := if_neg h0
  unfold dueV
  rw [e]
  exact congrArg V.int (wrap_id (fdiv_in hi hj h0 h))
theorem due_mod {i j : Int} (hj : InR j) (h0 : j ≠ 0) : dueV 4 i j = .int (i.fmod j) := by
  have e : opI 4 i j = some (i.fmod j) := if_neg h0
  unfold dueV
  rw [e]
  exact congrArg V.int (wrap_id (fmod_in hj h0))
theorem due_of {k : Nat} {i j n : Int} (e : opI k i j = some n) (h : InR n) : dueV k i j = .int n := by
  unfold dueV
  rw [e]
  exact congrArg V.int (wrap_id h)
theorem cast_due {Q : VK} {x y : V} {H : Hp} (e : x = y) (q : Q x H) : Q y H := e ▸ q
theorem due_min {i j : Int} (hi : InR i) (hj : InR j) : dueV 5 i j = .int (if j < i then j else i) := due_of rfl (by unfold InR at *; split <;> omega)
theorem due_max {i j : Int} (hi : InR i) (hj : InR j) : dueV 6 i j = .int (if j > i then j else i) := due_of rfl (by unfold InR at *; split <;> omega)
theorem due_lt (i j : Int) : dueV 7 i j = .int (if i < j then 1 else 0) := due_of rfl (by unfold InR; split <;> omega)
theorem due_eq (i j : Int) : dueV 8 i j = .int (if i = j then 1 else 0) := due_of rfl (by unfold InR; split <;> omega)
def dic (x y z : V) : List (L2.Key × V) := [(.inr "+", x), (.inr "-", y), (.inr "*", z)]
theorem dic_0 (x y z : V) : valV (mergeK [] (dic x y z)) (.inr "+") = some x := by
  unfold mergeK dic
  simp only [List.foldl_cons, List.foldl_nil]
  rw [valV_put, if_neg (by decide +kernel), valV_put, if_neg (by decide +kernel), valV_put, if_pos rfl]
theorem dic_1 (x y z : V) : valV (mergeK [] (dic x y z)) (.inr "-") = some y := by
  unfold mergeK dic
  simp only [List.foldl_cons, List.foldl_nil]
  rw [valV_put, if_neg (by decide +kernel), valV_put, if_pos rfl]
theorem dic_2 (x y z : V) : valV (mergeK [] (dic x y z)) (.inr "*") = some z := by
  unfold mergeK dic
  simp only [List.foldl_cons, List.foldl_nil]
  rw [valV_put, if_pos rfl]
def spDue : Sp := fun vs H Q _ => ∃ (k : Nat) (s : Str) (i j : Int), vs = [.str s, .int i, .int j] ∧ sgn[k]? = some s ∧ InR i ∧ InR j ∧ ∀ H', Same H H' → Q (dueV k i j) H'
theorem ok_law_due (T : Txt w K mg a) : FnOk P w K mg base CX0 1 a.law_due.1 a.law_due.2 ["sign", "a", "b"] spDue := by
  refine T.law_due.F.ok sc_law_due (fun vs H Q E h => ?_) (fun cdv A outer s H vs Q E hr h => ?_)
  · obtain ⟨k, s, i, j, rfl, _⟩ := h
    rfl
  obtain ⟨k, s, i, j, rfl, hk, hi, hj, q⟩ := h
  have nd := sc_law_due.nd
  have hu := hu_of hr
  refine ⟨_, (pss_cons (ps_if (pt_cmpR op_in_seq (pv 0) (pe_tup (pa_cons pe_str (pa_cons pe_str pa_nil))) (by rfl)) (pss_cons (ps_if (pt_cmpR op_eq (pv 2) pe_int (nomark _)) (pss_one (ps_ret pe_str)) pss_nil)
  (pss_cons (ps_if (pt_cmpR op_eq (pv 0) pe_str (nomark _)) (pss_one (ps_ret (pe_op op_modN (pe_callTy call_int1 (by rfl) T.int (by decide +kernel) (pa_cons (pv 1) pa_nil)) (pv 2)))) pss_nil)
  (pss_cons (ps_if (PW.pt (pw_and (pt_cmpR op_eq (pv 1) (pe_un un_neg pe_int) (nomark _)) (pw_and1 (pt_cmpR op_eq (pv 2) (pe_un un_neg pe_int) (nomark _))))) (pss_one (ps_ret (pe_un un_neg pe_int))) pss_nil)
  (pss_one (ps_ret (pe_op op_fdivX (pv 1) (pv 2))))))) pss_nil)
  (pss_cons (ps_if (PW.pt (pw_or (pt_cmpR op_eq (pv 0) pe_str (nomark _)) (pw_or1 (pt_cmpR op_eq (pv 0) pe_str (nomark _))))) (pss_one (ps_ret (pe_ix ix_list (pe_lst (pa_cons (pe_callB (call_min2 rfl) (by rfl) T.min (by decide +kernel) (pa_cons (pv 1) (pa_cons (pv 2) pa_nil))) (pa_cons (pe_callB (call_max2 rfl) (by rfl) T.max (by decide +kernel) (pa_cons (pv 1) (pa_cons (pv 2) pa_nil))) pa_nil))) (pe_callTy call_int1 (by rfl) T.int (by decide +kernel) (pa_cons (pe_cmpR op_eq (pv 0) pe_str (nomark _)) pa_nil)) (fun _ _ => rfl)))) pss_nil)
  (pss_cons (ps_if (pt_cmpR op_in_seq (pv 0) (pe_tup (pa_cons pe_str (pa_cons pe_str pa_nil))) (by rfl)) (pss_one (ps_ret (pe_callTy call_int1 (by rfl) T.int (by decide +kernel) (pa_cons (pe_or (pe_and (pe_cmpR op_eq (pv 0) pe_str (nomark _)) (pe_one (pe_cmpR op_lt (pv 1) (pv 2) (nomark _)))) (pe_one (pe_and (pe_cmpR op_eq (pv 0) pe_str (nomark _)) (pe_one (pe_cmpR op_eq (pv 1) (pv 2) (nomark _)))))) pa_nil)))) pss_nil)
  (pss_cons (ps_set (i := 3) nd rfl (Or.inl rfl) (pe_dget hu (pe_disp (pps_cons pe_str (pe_op op_add (pv 1) (pv 2)) (pps_cons pe_str (pe_op op_sub (pv 1) (pv 2)) (pps_cons pe_str (pe_op op_mul (pv 1) (pv 2)) pps_nil))) (by rfl) (by rfl) (fun z => by cases z) (by decide)) (pv 0) (fun _ _ => rfl)))
  (pss_one (ps_ret (pe_op op_sub (pe_op op_mod (pe_callTy call_int1 (by rfl) T.int (by decide +kernel) (pa_cons (pe_op op_add (pv 3) pe_int) pa_nil)) pe_int) pe_int))))))), ?_⟩
  refine ⟨_, rfl, (by show 2 ≤ sizeLine; decide), fun p hp => ?_⟩
  have s1 := same_new hp (.tup [.str "/", .str "mod"])
  refine ⟨p, _, rfl, .inr (.inl (.inl upd_same)), rfl, rfl, _, rfl, ?_⟩
  match k, hk, q with
  | 3, hk, q =>
    obtain rfl : ("/" : Str) = _ := Option.some.inj hk
    refine ifT (by decide +kernel) ?_
    refine ⟨_, rfl, rfl, _, rfl, ?_⟩
    refine ite2 (fun c => ?_) (fun c => ?_)
    · obtain rfl : j = 0 := V.int.inj (of_decide_eq_true c)
      exact q _ s1
    · have c' : ¬ j = 0 := fun z => c (by rw [z]; rfl)
      refine ⟨_, rfl, rfl, _, rfl, ?_⟩
      refine ifF (by decide +kernel) ?_
      refine ⟨_, rfl, _, rfl, rfl, _, rfl, ?_⟩
      refine ite2 (fun c1 => ?_) (fun c1 => ?_)
      · obtain rfl : i = -2147483648 := V.int.inj (of_decide_eq_true c1)
        refine ⟨_, rfl, _, rfl, rfl, _, rfl, ?_⟩
        refine ite2 (fun c2 => ?_) (fun c2 => ?_)
        · obtain rfl : j = -1 := V.int.inj (of_decide_eq_true c2)
          exact ⟨_, rfl, q _ s1⟩
        · refine ⟨_, rfl, _, rfl, _, _, rfl, rfl, divx_ok c' hj, ?_⟩
          have e := q _ s1
          rw [due_div hi hj c' fun z => c2 (by rw [z.2]; rfl)] at e
          exact e
      · refine ifF rfl ?_
        refine ⟨_, rfl, _, rfl, _, _, rfl, rfl, divx_ok c' hj, ?_⟩
        have e := q _ s1
        rw [due_div hi hj c' fun z => c1 (by rw [z.1]; rfl)] at e
        exact e
  | 4, hk, q =>
    obtain rfl : ("mod" : Str) = _ := Option.some.inj hk
    refine ifT (by decide +kernel) ?_
    refine ⟨_, rfl, rfl, _, rfl, ?_⟩
    refine ite2 (fun c => ?_) (fun c => ?_)
    · obtain rfl : j = 0 := V.int.inj (of_decide_eq_true c)
      exact q _ s1
    · have c' : ¬ j = 0 := fun z => c (by rw [z]; rfl)
      refine ⟨_, rfl, rfl, _, rfl, ?_⟩
      refine ifT (by decide +kernel) ?_
      refine ⟨_, rfl, .inl ⟨_, rfl, _, rfl, _, _, rfl, rfl, c', ?_⟩⟩
      have e := q _ s1
      rw [due_mod hj c'] at e
      exact e
  | 5, hk, q =>
    obtain rfl : ("min" : Str) = _ := Option.some.inj hk
    refine ifF (by decide +kernel) ?_
    refine ⟨_, rfl, rfl, _, rfl, ?_⟩
    refine ifT (by decide +kernel) ?_
    refine ifT rfl ?_
    refine ⟨_, rfl, _, rfl, _, _, rfl, _, rfl, _, rfl, _, _, rfl, (by show 2 ≤ sizeLine; decide), fun l hl => ?_⟩
    refine ⟨_, rfl, rfl, .inr ⟨_, rfl, l, _, _, _, rfl, rfl, SqL.of upd_same, rfl, ?_⟩⟩
    exact cast_due (due_min hi hj) (q _ (s1.trans (same_new hl _)))
  | 6, hk, q =>
    obtain rfl : ("max" : Str) = _ := Option.some.inj hk
    refine ifF (by decide +kernel) ?_
    refine ⟨_, rfl, rfl, _, rfl, ?_⟩
    refine ifF (by decide +kernel) ?_
    refine ⟨_, rfl, rfl, _, rfl, ?_⟩
    refine ifT (by decide +kernel) ?_
    refine ⟨_, rfl, _, rfl, _, _, rfl, _, rfl, _, rfl, _, _, rfl, (by show 2 ≤ sizeLine; decide), fun l hl => ?_⟩
    refine ⟨_, rfl, rfl, .inr ⟨_, rfl, l, _, _, _, rfl, rfl, SqL.of upd_same, rfl, ?_⟩⟩
    exact cast_due (due_max hi hj) (q _ (s1.trans (same_new hl _)))
  | 7, hk, q =>
    obtain rfl : ("<" : Str) = _ := Option.some.inj hk
    refine ifF (by decide +kernel) ?_
    refine ⟨_, rfl, rfl, _, rfl, ?_⟩
    refine ifF (by decide +kernel) ?_
    refine ⟨_, rfl, rfl, _, rfl, ?_⟩
    refine ifF (by decide +kernel) ?_
    refine ⟨_, rfl, (by show 2 ≤ sizeLine; decide), fun p2 hp2 => ?_⟩
    have s2 := s1.trans (same_new hp2 (.tup [.str "<", .str "="]))
    refine ⟨p2, _, rfl, .inr (.inl (.inl upd_same)), rfl, rfl, _, rfl, ?_⟩
    refine ifT (by decide +kernel) ?_
    refine ⟨_, rfl, rfl, _, rfl, ?_⟩
    refine ifT (by decide +kernel) ?_
    refine ⟨_, rfl, _, rfl, _, _, rfl, rfl, _, rfl, ?_⟩
    have e := q _ s2
    refine ite2 (fun c => ?_) (fun c => ?_)
    · refine .inr ⟨_, rfl, ?_⟩
      rw [due_lt, if_pos (of_decide_eq_true c)] at e
      exact e
    · refine ⟨_, rfl, rfl, _, rfl, ?_⟩
      refine ifF (by decide +kernel) ?_
      refine .inr ⟨_, rfl, ?_⟩
      rw [due_lt, if_neg (of_decide_eq_false (Bool.eq_false_iff.mpr c))] at e
      exact e
  | 8, hk, q =>
    obtain rfl : ("=" : Str) = _ := Option.some.inj hk
    refine ifF (by decide +kernel) ?_
    refine ⟨_, rfl, rfl, _, rfl, ?_⟩
    refine ifF (by decide +kernel) ?_
    refine ⟨_, rfl, rfl, _, rfl, ?_⟩
    refine ifF (by decide +kernel) ?_
    refine ⟨_, rfl, (by show 2 ≤ sizeLine; decide), fun p2 hp2 => ?_⟩
    have s2 := s1.trans (same_new hp2 (.tup [.str "<", .str "="]))
    refine ⟨p2, _, rfl, .inr (.inl (.inl upd_same)), rfl, rfl, _, rfl, ?_⟩
    refine ifT (by decide +kernel) ?_
    refine ⟨_, rfl, rfl, _, rfl, ?_⟩
    refine ifF (by decide +kernel) ?_
    refine ⟨_, rfl, ifF rfl ?_⟩
    refine ⟨_, rfl, rfl, _, rfl, ?_⟩
    refine ifT (by decide +kernel) ?_
    refine ⟨_, rfl, _, rfl, rfl, .inr ⟨_, rfl, ?_⟩⟩
    have e := q _ s2
    by_cases c : i = j
    · subst c
      rw [due_eq, if_pos rfl] at e
      rw [decide_eq_true rfl]
      exact e
    · rw [due_eq, if_neg c] at e
      rw [decide_eq_false (fun z => c (V.int.inj z))]
      exact e
  | 0, hk, q =>
    obtain rfl : ("+" : Str) = _ := Option.some.inj hk
    refine ifF (by decide +kernel) ?_
    refine ⟨_, rfl, rfl, _, rfl, ?_⟩
    refine ifF (by decide +kernel) ?_
    refine ⟨_, rfl, rfl, _, rfl, ?_⟩
    refine ifF (by decide +kernel) ?_
    refine ⟨_, rfl, (by show 2 ≤ sizeLine; decide), fun p2 hp2 => ?_⟩
    have s2 := s1.trans (same_new hp2 (.tup [.str "<", .str "="]))
    refine ⟨p2, _, rfl, .inr (.inl (.inl upd_same)), rfl, rfl, _, rfl, ?_⟩
    refine ifF (by decide +kernel) ?_
    refine fun p3 hp3 => ?_
    have s3 := s2.trans (same_new hp3 (.dK (mergeK [] (dic (.int (i + j)) (.int (i - j)) (.int (i * j))))))
    refine ⟨_, rfl, _, rfl, _, _, rfl, rfl, _, rfl, _, rfl, _, _, rfl, rfl, _, rfl, _, rfl, _, _, rfl, rfl, .inl (by unfold InR at hi; omega), upd_same, dic (.int (i + j)) (.int (i - j)) (.int (i * j)), rfl, (by show 3 ≤ 15; decide), ?_⟩
    refine ⟨_, rfl, p3, .int (i + j), rfl, ?_, ?_⟩
    · rw [← dic_0 (.int (i + j)) (.int (i - j)) (.int (i * j))]
      exact DGet.k (k := Sum.inr "+") upd_same
    · refine ⟨_, rfl, _, _, rfl, rfl, .inl ⟨_, rfl, _, _, rfl, rfl, (by show (0 : Int) < 4294967296; decide), _, _, rfl, rfl, ?_⟩⟩
      rw [upd_upd]
      exact q _ s3
  | 1, hk, q =>
    obtain rfl : ("-" : Str) = _ := Option.some.inj hk
    refine ifF (by decide +kernel) ?_
    refine ⟨_, rfl, rfl, _, rfl, ?_⟩
    refine ifF (by decide +kernel) ?_
    refine ⟨_, rfl, rfl, _, rfl, ?_⟩
    refine ifF (by decide +kernel) ?_
    refine ⟨_, rfl, (by show 2 ≤ sizeLine; decide), fun p2 hp2 => ?_⟩
    have s2 := s1.trans (same_new hp2 (.tup [.str "<", .str "="]))
    refine ⟨p2, _, rfl, .inr (.inl (.inl upd_same)), rfl, rfl, _, rfl, ?_⟩
    refine ifF (by decide +kernel) ?_
    refine fun p3 hp3 => ?_
    have s3 := s2.trans (same_new hp3 (.dK (mergeK [] (dic (.int (i + j)) (.int (i - j)) (.int (i * j))))))
    refine ⟨_, rfl, _, rfl, _, _, rfl, rfl, _, rfl, _, rfl, _, _, rfl, rfl, _, rfl, _, rfl, _, _, rfl, rfl, .inl (by unfold InR at hi; omega), upd_same, dic (.int (i + j)) (.int (i - j)) (.int (i * j)), rfl, (by show 3 ≤ 15; decide), ?_⟩
    refine ⟨_, rfl, p3, .int (i - j), rfl, ?_, ?_⟩
    · rw [← dic_1 (.int (i + j)) (.int (i - j)) (.int (i * j))]
      exact DGet.k (k := Sum.inr "-") upd_same
    · refine ⟨_, rfl, _, _, rfl, rfl, .inl ⟨_, rfl, _, _, rfl, rfl, (by show (0 : Int) < 4294967296; decide), _, _, rfl, rfl, ?_⟩⟩
      rw [upd_upd]
      exact q _ s3
  | 2, hk, q =>
    obtain rfl : ("*" : Str) = _ := Option.some.inj hk
    refine ifF (by decide +kernel) ?_
    refine ⟨_, rfl, rfl, _, rfl, ?_⟩
    refine ifF (by decide +kernel) ?_
    refine ⟨_, rfl, rfl, _, rfl, ?_⟩
    refine ifF (by decide +kernel) ?_
    refine ⟨_, rfl, (by show 2 ≤ sizeLine; decide), fun p2 hp2 => ?_⟩
    have s2 := s1.trans (same_new hp2 (.tup [.str "<", .str "="]))
    refine ⟨p2, _, rfl, .inr (.inl (.inl upd_same)), rfl, rfl, _, rfl, ?_⟩
    refine ifF (by decide +kernel) ?_
    refine fun p3 hp3 => ?_
    have s3 := s2.trans (same_new hp3 (.dK (mergeK [] (dic (.int (i + j)) (.int (i - j)) (.int (i * j))))))
    refine ⟨_, rfl, _, rfl, _, _, rfl, rfl, _, rfl, _, rfl, _, _, rfl, rfl, _, rfl, _, rfl, _, _, rfl, rfl, .inl (by unfold InR at hi; omega), upd_same, dic (.int (i + j)) (.int (i - j)) (.int (i * j)), rfl, (by show 3 ≤ 15; decide), ?_⟩
    refine ⟨_, rfl, p3, .int (i * j), rfl, ?_, ?_⟩
    · rw [← dic_2 (.int (i + j)) (.int (i - j)) (.int (i * j))]
      exact DGet.k (k := Sum.inr "*") upd_same
    · refine ⟨_, rfl, _, _, rfl, rfl, .inl ⟨_, rfl, _, _, rfl, rfl, (by show (0 : Int) < 4294967296; decide), _, _, rfl, rfl, ?_⟩⟩
      rw [upd_upd]
      exact q _ s3
  | _ + 9, hk, _ => exact absurd hk (by simp [sgn])
/-! ### the law -/
def spLaw (K : PySem.W.Frag) : Sp := fun vs H Q _ => ∃ (p : Addr) (ns : List Int), vs = [.ref p] ∧ SqL K H p (ns.map V.int) ∧ ns.length ≤ 63 ∧ ∀ H', Q (.bl true) H'
def tyV_due (k : Nat) (i j : Int) : String := match opI k i j with | some _ => "int" | none => "str"
theorem due_ty (K : PySem.W.Frag) (H : Hp) (k : Nat) (i j : Int) : ∃ t, TyX K H (dueV k i j) (.type t) ∧ PySem.W.kitOne K (.type t) (.type "bool") = some false := by
  unfold dueV
  cases opI k i j with
  | none => exact ⟨"str", .base (.str _), kit_ty (by decide +kernel)⟩
  | some n => exact ⟨"int", .base (.int _), kit_ty (by decide +kernel)⟩
theorem due_scal (k : Nat) (i j : Int) : scal (dueV k i j) (dueV k i j) = true := by
  unfold dueV
  cases opI k i j <;> rfl
theorem ok_law (T : Txt w K mg a) : FnOk P w K mg base CX0 4 a.law.1 a.law.2 ["script"] (spLaw K) := by
  refine T.law.F.ok sc_law (fun vs H Q E h => ?_) (fun cdv A outer s H vs Q E hr h => ?_)
  · obtain ⟨p, ns, rfl, _⟩ := h
    rfl
  obtain ⟨p, ns, rfl, hS, h63, q⟩ := h
  have nd := sc_law.nd
  have G_law_state := ok_law_state (P := P) (w := w) (base := base) T
  have G_law_number := ok_law_number (P := P) (w := w) (base := base) T
  have G_law_draw := ok_law_draw (P := P) (w := w) (base := base) T
  have G_law_told := ok_law_told (P := P) (w := w) (base := base) T
  have G_law_due := ok_law_due (P := P) (w := w) (base := base) T
  have G_wrapped := ok_wrapped (P := P) (w := w) (base := base) T
  refine ⟨_, (pss_cons (ps_set (i := 1) nd rfl (Or.inl rfl) (pe_call G_law_state (hr.mono (by decide)) rfl T.law_state.g T.law_state.F.kp T.law_state.b .nil pass0 (pa_cons (pv 0) pa_nil)))
  (pss_cons (ps_set (i := 2) nd rfl (Or.inl rfl) (pe_lst (pa_cons (pe_call G_law_number (hr.mono (by decide)) rfl T.law_number.g T.law_number.F.kp T.law_number.b .nil pass0 (pa_cons (pv 1) pa_nil)) (pa_cons (pe_call G_law_number (hr.mono (by decide)) rfl T.law_number.g T.law_number.F.kp T.law_number.b .nil pass0 (pa_cons (pv 1) pa_nil)) (pa_cons (pe_op op_sub (pe_call G_law_draw (hr.mono (by decide)) rfl T.law_draw.g T.law_draw.F.kp T.law_draw.b .nil pass0 (pa_cons (pv 1) (pa_cons pe_int pa_nil))) pe_int) pa_nil)))))
  (pss_cons (ps_for PassesOwn.never rfl (pi_list (pe_lst (pa_cons pe_str (pa_cons pe_str (pa_cons pe_str (pa_cons pe_str (pa_cons pe_str (pa_cons pe_str (pa_cons pe_str (pa_cons pe_str (pa_cons pe_str pa_nil))))))))))) (pg_name (i := 3) nd rfl (Or.inl rfl)) (pss_one (ps_for PassesOwn.never rfl (pi_list (pv 2)) (pg_name (i := 4) nd rfl (Or.inl rfl)) (pss_one (ps_for PassesOwn.never rfl (pi_list (pv 2)) (pg_name (i := 5) nd rfl (Or.inl rfl)) (pss_cons (ps_set (i := 6) nd rfl (Or.inl rfl) (pe_call G_law_told (hr.mono (by decide)) rfl T.law_told.g T.law_told.F.kp T.law_told.b .nil pass0 (pa_cons (pv 3) (pa_cons (pv 4) (pa_cons (pv 5) pa_nil)))))
  (pss_one (ps_if (PW.pt (pw_or (pt_val (pe_callB call_isi (by rfl) T.isinstance (by decide +kernel) (pa_cons (pv 6) (pa_cons (pe_bltn (v := .ty "bool") rfl T.bool (by decide +kernel) rfl) pa_nil)))) (pw_or1 (pt_cmpR op_ne (pv 6) (pe_call G_law_due (hr.mono (by decide)) rfl T.law_due.g T.law_due.F.kp T.law_due.b .nil pass0 (pa_cons (pv 3) (pa_cons (pv 4) (pa_cons (pv 5) pa_nil)))) (nomark _))))) (pss_one (ps_ret pe_bl)) pss_nil))))))))
  (pss_cons (ps_for PassesOwn.never rfl (pi_list (pe_op op_cat (pv 2) (pe_lst (pa_cons (pe_op op_add (pe_op op_mul (pe_ix ix_list (pv 2) pe_int (fun _ _ => rfl)) pe_int) pe_int) (pa_cons (pe_op op_mul (pe_ix ix_list (pv 2) pe_int (fun _ _ => rfl)) (pe_ix ix_list (pv 2) pe_int (fun _ _ => rfl))) (pa_cons (pe_op op_sub pe_int (pe_op op_mul (pe_ix ix_list (pv 2) pe_int (fun _ _ => rfl)) pe_int)) pa_nil)))))) (pg_name (i := 7) nd rfl (Or.inl rfl)) (pss_cons (ps_set (i := 6) nd rfl (Or.inl rfl) (pe_call G_wrapped (hr.mono (by decide)) rfl T.wrapped.g T.wrapped.F.kp T.wrapped.b .nil pass0 (pa_cons (pv 7) pa_nil)))
  (pss_one (ps_if (PW.pt (pw_or (pt_val (pe_callB call_isi (by rfl) T.isinstance (by decide +kernel) (pa_cons (pv 6) (pa_cons (pe_bltn (v := .ty "bool") rfl T.bool (by decide +kernel) rfl) pa_nil)))) (pw_or (pt_cmpR op_lt (pv 6) (pe_un un_neg pe_int) (nomark _)) (pw_or (pt_cmpR op_gt (pv 6) pe_int (nomark _)) (pw_or1 (pt_cmpR op_ne (pe_op op_mod (pe_callTy call_int1 (by rfl) T.int (by decide +kernel) (pa_cons (pe_op op_sub (pv 6) (pv 7)) pa_nil)) pe_int) pe_int (nomark _))))))) (pss_one (ps_ret pe_bl)) pss_nil))))
  (pss_one (ps_ret pe_bl)))))), ?_⟩
  refine ⟨_, rfl, p, ns, rfl, hS, h63, fun H1 st c s1 nst nc hSt1 => ?_⟩
  refine ⟨_, rfl, st, c, rfl, hSt1, fun H2 x0 g2 i0 => ?_⟩
  refine ⟨_, rfl, st, c, rfl, g2.2, fun H3 x1 g3 i1 => ?_⟩
  refine ⟨_, rfl, st, c, _, rfl, g3.2, by decide, by decide, fun H4 n g4 h0 h1 => ?_⟩
  refine ⟨_, _, rfl, rfl, (by show 3 ≤ sizeLine; decide), fun r hr' => ?_⟩
  refine ⟨(by show 9 ≤ sizeLine; decide), fun l hl => ?_⟩
  have i2 : InR (n - 2147483648) := by unfold InR; omega
  have nrl : r ≠ l := ne_of_none upd_same hl
  obtain ⟨x2, ex2⟩ : ∃ x2, x2 = n - 2147483648 := ⟨_, rfl⟩
  rw [← ex2] at i2
  have all : ∀ u, u ∈ [x0, x1, x2] → InR u := fun u hu => by
    simp only [List.mem_cons, List.not_mem_nil, or_false] at hu
    rcases hu with rfl | rfl | rfl
    · exact i0
    · exact i1
    · exact i2
  refine ⟨l, rfl, ⟨_, .inl (.inl upd_same)⟩, for_list (K := K) (a := l) (xs := sgn.map V.str) (fun i σ H' => H' r = some (.lst ([x0, x1, x2].map V.int)) ∧ H' l = some (.lst (sgn.map V.str)) ∧ ∃ v3 v4 v5 v6 v7, σ = [some (.ref p), some (.ref st), some (.ref r), v3, v4, v5, v6, v7]) ⟨?_, upd_same, none, none, none, none, none, rfl⟩ (fun i σ H' _ h => .inl (.inl h.2.1)) ?_ ?_⟩
  · rw [upd_ne nrl, ex2]; exact upd_same
  · rintro k y σ H5 hk ⟨e1, e2, v3, v4, v5, v6, v7, rfl⟩
    obtain ⟨sg, rfl, hsg⟩ : ∃ sg, y = V.str sg ∧ sgn[k]? = some sg := by
      rw [List.getElem?_map] at hk
      cases e : sgn[k]? with
      | none => rw [e] at hk; cases hk
      | some u => rw [e] at hk; exact ⟨u, (Option.some.inj hk).symm, rfl⟩
    refine ⟨_, rfl, r, rfl, ⟨_, .inl (.inl e1)⟩, for_list (K := K) (a := r) (xs := [x0, x1, x2].map V.int) (fun i σ H' => H' r = some (.lst ([x0, x1, x2].map V.int)) ∧ H' l = some (.lst (sgn.map V.str)) ∧ ∃ v4 v5 v6 v7, σ = [some (.ref p), some (.ref st), some (.ref r), some (.str sg), v4, v5, v6, v7]) ⟨e1, e2, v4, v5, v6, v7, rfl⟩ (fun i σ H' _ h => .inl (.inl h.1)) ?_ ?_⟩
    · rintro k1 y σ H6 hk1 ⟨e1, e2, v4, v5, v6, v7, rfl⟩
      obtain ⟨_, i, rfl⟩ := int_at hk1
      have hi : InR i := all i (by
        rw [List.getElem?_map] at hk1
        cases e : [x0, x1, x2][k1]? with
        | none => rw [e] at hk1; cases hk1
        | some u =>
          rw [e] at hk1
          obtain rfl : u = i := V.int.inj (Option.some.inj hk1)
          exact List.mem_of_getElem? e)
      refine ⟨_, rfl, r, rfl, ⟨_, .inl (.inl e1)⟩, for_list (K := K) (a := r) (xs := [x0, x1, x2].map V.int) (fun _ σ H' => H' r = some (.lst ([x0, x1, x2].map V.int)) ∧ H' l = some (.lst (sgn.map V.str)) ∧ ∃ v5 v6 v7, σ = [some (.ref p), some (.ref st), some (.ref r), some (.str sg), some (.int i), v5, v6, v7]) ⟨e1, e2, v5, v6, v7, rfl⟩ (fun i σ H' _ h => .inl (.inl h.1)) ?_ ?_⟩
      · rintro k2 y σ H7 hk2 ⟨e1, e2, v5, v6, v7, rfl⟩
        obtain ⟨_, j, rfl⟩ := int_at hk2
        have hj : InR j := all j (by
          rw [List.getElem?_map] at hk2
          cases e : [x0, x1, x2][k2]? with
          | none => rw [e] at hk2; cases hk2
          | some u =>
            rw [e] at hk2
            obtain rfl : u = j := V.int.inj (Option.some.inj hk2)
            exact List.mem_of_getElem? e)
        refine ⟨_, rfl, _, rfl, _, rfl, k, sg, i, j, rfl, hsg, hi, hj, ?_⟩
        obtain ⟨t, ht, hkt⟩ := due_ty K H7 k i j
        refine ⟨_, rfl, _, _, _, _, false, rfl, .ty _, ht, hkt, _, rfl, ?_⟩
        refine ifF rfl ?_
        refine ⟨_, rfl, _, rfl, _, rfl, _, rfl, k, sg, i, j, rfl, hsg, hi, hj, fun H8 s8 => ?_⟩
        refine ⟨due_scal k i j, _, rfl, ?_⟩
        refine ifF (by rw [decide_eq_true rfl]; rfl) ?_
        exact ⟨s8 _ _ e1, s8 _ _ e2, _, _, _, rfl⟩
      · rintro σ H7 ⟨e1, e2, v5, v6, v7, rfl⟩
        exact ⟨e1, e2, _, _, _, _, rfl⟩
    · rintro σ H6 ⟨e1, e2, v4, v5, v6, v7, rfl⟩
      exact ⟨e1, e2, _, _, _, _, _, rfl⟩
  · rintro σ H5 ⟨e1, e2, v3, v4, v5, v6, v7, rfl⟩
    have at_ : ∀ (m : Nat) (y : V), ([x0, x1, x2].map V.int)[m]? = some y → atI ([x0, x1, x2].map V.int) (m : Int) = some y := fun m y h => atI_nat h
    refine ⟨_, rfl, _, rfl, r, _, _, _, rfl, rfl, .inl (.inl e1), at_ 0 _ rfl, _, _, rfl, rfl, .inr (by constructor <;> decide), _, _, rfl, rfl, ?_⟩
    refine ⟨_, rfl, r, _, _, _, rfl, rfl, .inl (.inl e1), at_ 2 _ rfl, _, rfl, r, _, _, _, rfl, rfl, .inl (.inl e1), at_ 2 _ rfl, _, _, rfl, rfl, .inl (by unfold InR at i2; omega), ?_⟩
    refine ⟨_, rfl, r, _, _, _, rfl, rfl, .inl (.inl e1), at_ 1 _ rfl, _, _, rfl, rfl, .inr (by constructor <;> decide), _, _, rfl, rfl, (by show 3 ≤ sizeLine; decide), fun b hb => ?_⟩
    have nrb : r ≠ b := ne_of_none e1 hb
    refine ⟨r, b, _, _, rfl, rfl, by rw [upd_ne nrb]; exact e1, upd_same, (by show 3 + 3 ≤ sizeLine; decide), fun d hd => ?_⟩
    refine ⟨d, rfl, ⟨_, .inl (.inl upd_same)⟩, for_list (K := K) (a := d) (xs := [x0, x1, x2, x0 * 4294967296 + 5, x2 * x2, 0 - x1 * 3000000000].map V.int) (fun _ σ H' => H' d = some (.lst ([x0, x1, x2, x0 * 4294967296 + 5, x2 * x2, 0 - x1 * 3000000000].map V.int)) ∧ ∃ v3 v4 v5 v6 v7, σ = [some (.ref p), some (.ref st), some (.ref r), v3, v4, v5, v6, v7]) ⟨upd_same, _, _, _, _, _, rfl⟩ (fun i σ H' _ h => .inl (.inl h.1)) ?_ ?_⟩
    · rintro k y σ H6 hk ⟨e3, v3, v4, v5, v6, v7, rfl⟩
      obtain ⟨_, m, rfl⟩ := int_at hk
      refine ⟨_, rfl, m, rfl, ?_⟩
      have hw := wrap_in m
      unfold InR at hw
      refine ⟨_, rfl, _, _, _, _, false, rfl, .ty _, .base (.int _), kit_ty (by decide +kernel), _, rfl, ?_⟩
      refine ifF rfl ?_
      refine ⟨_, rfl, _, rfl, _, _, rfl, rfl, _, rfl, ?_⟩
      refine ifF (decide_eq_false (by omega)) ?_
      refine ⟨_, rfl, _, _, rfl, rfl, _, rfl, ?_⟩
      refine ifF (decide_eq_false (by omega)) ?_
      refine ⟨_, rfl, _, rfl, _, _, rfl, rfl, .inl ⟨_, rfl, _, _, rfl, rfl, (by show (0 : Int) < 4294967296; decide), rfl, _, rfl, ?_⟩⟩
      refine ifF ?_ ?_
      · have e0 : (wrap m - m) % 4294967296 = 0 := by unfold wrap; omega
        show (!decide (V.int ((wrap m - m) % 4294967296) = V.int 0)) = false
        rw [e0]
        rfl
      · exact ⟨e3, _, _, _, _, _, rfl⟩
    · rintro σ H6 _
      exact q _
end
/-! ### the top -/
theorem all_mk {l : PySem.W.OpenLaw} {w : World} {K : PySem.W.Frag} {h : Heap} {mg : Str → Option Value} {fa f0 f1 f2 f3 f4 f5 f6 f7 f8 f9 f10 f11 f12 f13 f14 f15 f16 f17 C0 C1 C2 fO : Addr} (X : K.In h) (G : h.Ns mainGlobals mg) (hfa : mg "law" = some (.ref fa))
    {od0 an0 od1 an1 od2 an2 od3 an3 od4 an4 od5 an5 od6 an6 od7 an7 od8 an8 od9 an9 od10 an10 od11 an11 od12 an12 od13 an13 od14 an14 od15 an15 od16 an16 od17 an17 : Option Addr} {sl0 sl1 sl2 sl3 sl4 sl5 sl6 sl7 sl8 sl9 sl10 sl11 sl12 sl13 sl14 sl15 sl16 sl17 : Array (Option Value)} {oc0 kV0 dc0 pm0 cd0 ct0 oc1 kV1 dc1 pm1 cd1 ct1 oc2 kV2 dc2 pm2 cd2 ct2 oc3 kV3 dc3 pm3 cd3 ct3 oc4 kV4 dc4 pm4 cd4 ct4 oc5 kV5 dc5 pm5 cd5 ct5 oc6 kV6 dc6 pm6 cd6 ct6 oc7 kV7 dc7 pm7 cd7 ct7 oc8 kV8 dc8 pm8 cd8 ct8 oc9 kV9 dc9 pm9 cd9 ct9 oc10 kV10 dc10 pm10 cd10 ct10 oc11 kV11 dc11 pm11 cd11 ct11 oc12 kV12 dc12 pm12 cd12 ct12 oc13 kV13 dc13 pm13 cd13 ct13 oc14 kV14 dc14 pm14 cd14 ct14 oc15 kV15 dc15 pm15 cd15 ct15 oc16 kV16 dc16 pm16 cd16 ct16 oc17 kV17 dc17 pm17 cd17 ct17 : Value} {t1 t2 : Tok} {esO : Array DictEntry} {nO : Nat}
    (a0 : PySem.W.nsIn K mainGlobals "wrapped" = some (some (.ref f0))) (l0 : K.lookup f0 = some ⟨oc0, od0, .func (PySem.W.fnOf "wrapped" "wrapped" (defArgs s_wrapped) (defBody s_wrapped) (defScope s_wrapped) .none kV0 dc0 pm0 an0 cd0 ct0), sl0⟩) (c0 : PySem.W.codeIn K cd0 "wrapped" = true) (k0 : PySem.W.keepIn K (.ref f0) = true)
    (a1 : PySem.W.nsIn K mainGlobals "added" = some (some (.ref f1))) (l1 : K.lookup f1 = some ⟨oc1, od1, .func (PySem.W.fnOf "added" "added" (defArgs s_added) (defBody s_added) (defScope s_added) .none kV1 dc1 pm1 an1 cd1 ct1), sl1⟩) (c1 : PySem.W.codeIn K cd1 "added" = true) (k1 : PySem.W.keepIn K (.ref f1) = true)
    (a2 : PySem.W.nsIn K mainGlobals "subtracted" = some (some (.ref f2))) (l2 : K.lookup f2 = some ⟨oc2, od2, .func (PySem.W.fnOf "subtracted" "subtracted" (defArgs s_subtracted) (defBody s_subtracted) (defScope s_subtracted) .none kV2 dc2 pm2 an2 cd2 ct2), sl2⟩) (c2 : PySem.W.codeIn K cd2 "subtracted" = true) (k2 : PySem.W.keepIn K (.ref f2) = true)
    (a3 : PySem.W.nsIn K mainGlobals "multiplied" = some (some (.ref f3))) (l3 : K.lookup f3 = some ⟨oc3, od3, .func (PySem.W.fnOf "multiplied" "multiplied" (defArgs s_multiplied) (defBody s_multiplied) (defScope s_multiplied) .none kV3 dc3 pm3 an3 cd3 ct3), sl3⟩) (c3 : PySem.W.codeIn K cd3 "multiplied" = true) (k3 : PySem.W.keepIn K (.ref f3) = true)
    (a4 : PySem.W.nsIn K mainGlobals "quotient" = some (some (.ref f4))) (l4 : K.lookup f4 = some ⟨oc4, od4, .func (PySem.W.fnOf "quotient" "quotient" (defArgs s_quotient) (defBody s_quotient) (defScope s_quotient) .none kV4 dc4 pm4 an4 cd4 ct4), sl4⟩) (c4 : PySem.W.codeIn K cd4 "quotient" = true) (k4 : PySem.W.keepIn K (.ref f4) = true)
    (a5 : PySem.W.nsIn K mainGlobals "remainder" = some (some (.ref f5))) (l5 : K.lookup f5 = some ⟨oc5, od5, .func (PySem.W.fnOf "remainder" "remainder" (defArgs s_remainder) (defBody s_remainder) (defScope s_remainder) .none kV5 dc5 pm5 an5 cd5 ct5), sl5⟩) (c5 : PySem.W.codeIn K cd5 "remainder" = true) (k5 : PySem.W.keepIn K (.ref f5) = true)
    (a6 : PySem.W.nsIn K mainGlobals "smaller" = some (some (.ref f6))) (l6 : K.lookup f6 = some ⟨oc6, od6, .func (PySem.W.fnOf "smaller" "smaller" (defArgs s_smaller) (defBody s_smaller) (defScope s_smaller) .none kV6 dc6 pm6 an6 cd6 ct6), sl6⟩) (c6 : PySem.W.codeIn K cd6 "smaller" = true) (k6 : PySem.W.keepIn K (.ref f6) = true)
    (a7 : PySem.W.nsIn K mainGlobals "larger" = some (some (.ref f7))) (l7 : K.lookup f7 = some ⟨oc7, od7, .func (PySem.W.fnOf "larger" "larger" (defArgs s_larger) (defBody s_larger) (defScope s_larger) .none kV7 dc7 pm7 an7 cd7 ct7), sl7⟩) (c7 : PySem.W.codeIn K cd7 "larger" = true) (k7 : PySem.W.keepIn K (.ref f7) = true)
    (a8 : PySem.W.nsIn K mainGlobals "is_less" = some (some (.ref f8))) (l8 : K.lookup f8 = some ⟨oc8, od8, .func (PySem.W.fnOf "is_less" "is_less" (defArgs s_is_less) (defBody s_is_less) (defScope s_is_less) .none kV8 dc8 pm8 an8 cd8 ct8), sl8⟩) (c8 : PySem.W.codeIn K cd8 "is_less" = true) (k8 : PySem.W.keepIn K (.ref f8) = true)
    (a9 : PySem.W.nsIn K mainGlobals "is_equal" = some (some (.ref f9))) (l9 : K.lookup f9 = some ⟨oc9, od9, .func (PySem.W.fnOf "is_equal" "is_equal" (defArgs s_is_equal) (defBody s_is_equal) (defScope s_is_equal) .none kV9 dc9 pm9 an9 cd9 ct9), sl9⟩) (c9 : PySem.W.codeIn K cd9 "is_equal" = true) (k9 : PySem.W.keepIn K (.ref f9) = true)
    (a10 : PySem.W.nsIn K mainGlobals "calculate" = some (some (.ref f10))) (l10 : K.lookup f10 = some ⟨oc10, od10, .func (PySem.W.fnOf "calculate" "calculate" (defArgs s_calculate) (defBody s_calculate) (defScope s_calculate) .none kV10 dc10 pm10 an10 cd10 ct10), sl10⟩) (c10 : PySem.W.codeIn K cd10 "calculate" = true) (k10 : PySem.W.keepIn K (.ref f10) = true)
    (a11 : PySem.W.nsIn K mainGlobals "_law_state" = some (some (.ref f11))) (l11 : K.lookup f11 = some ⟨oc11, od11, .func (PySem.W.fnOf "_law_state" "_law_state" (defArgs s_law_state) (defBody s_law_state) (defScope s_law_state) .none kV11 dc11 pm11 an11 cd11 ct11), sl11⟩) (c11 : PySem.W.codeIn K cd11 "_law_state" = true) (k11 : PySem.W.keepIn K (.ref f11) = true)
    (a12 : PySem.W.nsIn K mainGlobals "_law_draw" = some (some (.ref f12))) (l12 : K.lookup f12 = some ⟨oc12, od12, .func (PySem.W.fnOf "_law_draw" "_law_draw" (defArgs s_law_draw) (defBody s_law_draw) (defScope s_law_draw) .none kV12 dc12 pm12 an12 cd12 ct12), sl12⟩) (c12 : PySem.W.codeIn K cd12 "_law_draw" = true) (k12 : PySem.W.keepIn K (.ref f12) = true)
    (a13 : PySem.W.nsIn K mainGlobals "_law_pick" = some (some (.ref f13))) (l13 : K.lookup f13 = some ⟨oc13, od13, .func (PySem.W.fnOf "_law_pick" "_law_pick" (defArgs s_law_pick) (defBody s_law_pick) (defScope s_law_pick) .none kV13 dc13 pm13 an13 cd13 ct13), sl13⟩) (c13 : PySem.W.codeIn K cd13 "_law_pick" = true) (k13 : PySem.W.keepIn K (.ref f13) = true)
    (a14 : PySem.W.nsIn K mainGlobals "_law_number" = some (some (.ref f14))) (l14 : K.lookup f14 = some ⟨oc14, od14, .func (PySem.W.fnOf "_law_number" "_law_number" (defArgs s_law_number) (defBody s_law_number) (defScope s_law_number) .none kV14 dc14 pm14 an14 cd14 ct14), sl14⟩) (c14 : PySem.W.codeIn K cd14 "_law_number" = true) (k14 : PySem.W.keepIn K (.ref f14) = true)
    (a15 : PySem.W.nsIn K mainGlobals "_law_told" = some (some (.ref f15))) (l15 : K.lookup f15 = some ⟨oc15, od15, .func (PySem.W.fnOf "_law_told" "_law_told" (defArgs s_law_told) (defBody s_law_told) (defScope s_law_told) .none kV15 dc15 pm15 an15 cd15 ct15), sl15⟩) (c15 : PySem.W.codeIn K cd15 "_law_told" = true) (k15 : PySem.W.keepIn K (.ref f15) = true)
    (a16 : PySem.W.nsIn K mainGlobals "_law_due" = some (some (.ref f16))) (l16 : K.lookup f16 = some ⟨oc16, od16, .func (PySem.W.fnOf "_law_due" "_law_due" (defArgs s_law_due) (defBody s_law_due) (defScope s_law_due) .none kV16 dc16 pm16 an16 cd16 ct16), sl16⟩) (c16 : PySem.W.codeIn K cd16 "_law_due" = true) (k16 : PySem.W.keepIn K (.ref f16) = true)
    (a17 : PySem.W.nsIn K mainGlobals "law" = some (some (.ref f17))) (l17 : K.lookup f17 = some ⟨oc17, od17, .func (PySem.W.fnOf "law" "law" (defArgs s_law) (defBody s_law) (defScope s_law) .none kV17 dc17 pm17 an17 cd17 ct17), sl17⟩) (c17 : PySem.W.codeIn K cd17 "law" = true) (k17 : PySem.W.keepIn K (.ref f17) = true)
    (g0 : PySem.W.nsIn K mainGlobals "FlatError" = some (some (.ref C0)))
    (g1 : PySem.W.nsIn K mainGlobals "KindError" = some (some (.ref C1)))
    (g2 : PySem.W.nsIn K mainGlobals "TrapError" = some (some (.ref C2)))
    (b0 : PySem.W.nsIn K mainGlobals "len" = some none)
    (b1 : PySem.W.nsIn K mainGlobals "abs" = some none)
    (b2 : PySem.W.nsIn K mainGlobals "int" = some none)
    (b3 : PySem.W.nsIn K mainGlobals "min" = some none)
    (b4 : PySem.W.nsIn K mainGlobals "max" = some none)
    (b5 : PySem.W.nsIn K mainGlobals "isinstance" = some none)
    (b6 : PySem.W.nsIn K mainGlobals "bool" = some none)
    (b7 : PySem.W.nsIn K mainGlobals "ValueError" = some none)
    (xT : PySem.W.excIn K C2 [.type "ValueError", .type "Exception", .type "BaseException", .type "object"] "ValueError.__new__" = true)
    (kT : PySem.W.keepIn K (.ref C2) = true)
    (bT : PySem.W.subIn K (.ref C2) (.type "BaseException") = some true)
    (tT : PySem.W.typeIn K (.ref C2) = some (.type "type"))
    (iT : PySem.W.isClsIn K C2 = true)
    (sT : PySem.W.subIn K (.ref C2) (.ref C2) = some true)
    (e1 : PySem.W.findIn K (.ref C2) "__getattribute__" = some (some (.builtin "BaseException.__getattribute__")))
    (e2 : PySem.W.findIn K (.ref C2) "__getattr__" = some none)
    (e4 : PySem.W.hasDictIn K C2 = true)
    (e5 : PySem.W.findIn K (.ref C2) "__class__" = some (some (.builtin "object.__class__")))
    (e6 : PySem.W.specialIn K (.builtin "object.__class__") "__get__" = some (some (.builtin "getset_descriptor.__get__")))
    (e7 : PySem.W.takesIn K (.builtin "object.__class__") = some true)
    (e8 : PySem.W.mroIn K C2 (.type "object") = some true)
    (yF : PySem.W.kitOne K (.ref C2) (.ref C0) = some true)
    (yV : PySem.W.kitOne K (.ref C2) (.type "ValueError") = some true)
    (yK : PySem.W.kitOne K (.ref C2) (.ref C1) = some false)
    (hf : PySem.W.nsIn K mainGlobals "HALF" = some (some (.int 2147483648 t1)))
    (hs : PySem.W.nsIn K mainGlobals "SPAN" = some (some (.int 4294967296 t2)))
    (hO : PySem.W.nsIn K mainGlobals "OPERATIONS" = some (some (.ref fO)))
    (lO : K.lookup fO = some ⟨.type "dict", none, .dict esO nO, #[]⟩)
    (kO : PySem.W.KeysLit w.params esO.toList)
    (o0 : PySem.W.nsIn K fO "+" = some (some (.ref f1)))
    (o1 : PySem.W.nsIn K fO "-" = some (some (.ref f2)))
    (o2 : PySem.W.nsIn K fO "*" = some (some (.ref f3)))
    (o3 : PySem.W.nsIn K fO "/" = some (some (.ref f4)))
    (o4 : PySem.W.nsIn K fO "mod" = some (some (.ref f5)))
    (o5 : PySem.W.nsIn K fO "min" = some (some (.ref f6)))
    (o6 : PySem.W.nsIn K fO "max" = some (some (.ref f7)))
    (o7 : PySem.W.nsIn K fO "<" = some (some (.ref f8)))
    (o8 : PySem.W.nsIn K fO "=" = some (some (.ref f9)))
    : ∃ fd : FuncData, (∀ (s : Shared) (v : Value), BindsTo s fd ⟨[v], []⟩ [("script", v)]) ∧ ∀ base : Heap, K.In base → base.Ns mainGlobals mg → FnOk l.prog w K mg base CX0 4 fa fd ["script"] (spLaw K) := by
  have e := hfa.symm.trans (PySem.W.mg_of X G a17)
  cases e
  have F0 := fun_mk (st := s_wrapped) l0 c0 k0
  have B0 := F0.binds (ps := ["n"]) fun _ _ _ _ _ _ us hl => match us, hl with | [_], _ => rfl
  have F1 := fun_mk (st := s_added) l1 c1 k1
  have B1 := F1.binds (ps := ["a", "b"]) fun _ _ _ _ _ _ us hl => match us, hl with | [_, _], _ => rfl
  have F2 := fun_mk (st := s_subtracted) l2 c2 k2
  have B2 := F2.binds (ps := ["a", "b"]) fun _ _ _ _ _ _ us hl => match us, hl with | [_, _], _ => rfl
  have F3 := fun_mk (st := s_multiplied) l3 c3 k3
  have B3 := F3.binds (ps := ["a", "b"]) fun _ _ _ _ _ _ us hl => match us, hl with | [_, _], _ => rfl
  have F4 := fun_mk (st := s_quotient) l4 c4 k4
  have B4 := F4.binds (ps := ["a", "b"]) fun _ _ _ _ _ _ us hl => match us, hl with | [_, _], _ => rfl
  have F5 := fun_mk (st := s_remainder) l5 c5 k5
  have B5 := F5.binds (ps := ["a", "b"]) fun _ _ _ _ _ _ us hl => match us, hl with | [_, _], _ => rfl
  have F6 := fun_mk (st := s_smaller) l6 c6 k6
  have B6 := F6.binds (ps := ["a", "b"]) fun _ _ _ _ _ _ us hl => match us, hl with | [_, _], _ => rfl
  have F7 := fun_mk (st := s_larger) l7 c7 k7
  have B7 := F7.binds (ps := ["a", "b"]) fun _ _ _ _ _ _ us hl => match us, hl with | [_, _], _ => rfl
  have F8 := fun_mk (st := s_is_less) l8 c8 k8
  have B8 := F8.binds (ps := ["a", "b"]) fun _ _ _ _ _ _ us hl => match us, hl with | [_, _], _ => rfl
  have F9 := fun_mk (st := s_is_equal) l9 c9 k9
  have B9 := F9.binds (ps := ["a", "b"]) fun _ _ _ _ _ _ us hl => match us, hl with | [_, _], _ => rfl
  have F10 := fun_mk (st := s_calculate) l10 c10 k10
  have B10 := F10.binds (ps := ["sign", "a", "b"]) fun _ _ _ _ _ _ us hl => match us, hl with | [_, _, _], _ => rfl
  have F11 := fun_mk (st := s_law_state) l11 c11 k11
  have B11 := F11.binds (ps := ["script"]) fun _ _ _ _ _ _ us hl => match us, hl with | [_], _ => rfl
  have F12 := fun_mk (st := s_law_draw) l12 c12 k12
  have B12 := F12.binds (ps := ["state", "many"]) fun _ _ _ _ _ _ us hl => match us, hl with | [_, _], _ => rfl
  have F13 := fun_mk (st := s_law_pick) l13 c13 k13
  have B13 := F13.binds (ps := ["state", "row"]) fun _ _ _ _ _ _ us hl => match us, hl with | [_, _], _ => rfl
  have F14 := fun_mk (st := s_law_number) l14 c14 k14
  have B14 := F14.binds (ps := ["state"]) fun _ _ _ _ _ _ us hl => match us, hl with | [_], _ => rfl
  have F15 := fun_mk (st := s_law_told) l15 c15 k15
  have B15 := F15.binds (ps := ["sign", "a", "b"]) fun _ _ _ _ _ _ us hl => match us, hl with | [_, _, _], _ => rfl
  have F16 := fun_mk (st := s_law_due) l16 c16 k16
  have B16 := F16.binds (ps := ["sign", "a", "b"]) fun _ _ _ _ _ _ us hl => match us, hl with | [_, _, _], _ => rfl
  have F17 := fun_mk (st := s_law) l17 c17 k17
  have B17 := F17.binds (ps := ["script"]) fun _ _ _ _ _ _ us hl => match us, hl with | [_], _ => rfl
  have T : Txt w K mg ⟨(f0, _), (f1, _), (f2, _), (f3, _), (f4, _), (f5, _), (f6, _), (f7, _), (f8, _), (f9, _), (f10, _), (f11, _), (f12, _), (f13, _), (f14, _), (f15, _), (f16, _), (_, _), C0, C1, C2, fO⟩ :=
    { wrapped := ⟨F0, PySem.W.mg_of X G a0, B0⟩,
      added := ⟨F1, PySem.W.mg_of X G a1, B1⟩,
      subtracted := ⟨F2, PySem.W.mg_of X G a2, B2⟩,
      multiplied := ⟨F3, PySem.W.mg_of X G a3, B3⟩,
      quotient := ⟨F4, PySem.W.mg_of X G a4, B4⟩,
      remainder := ⟨F5, PySem.W.mg_of X G a5, B5⟩,
      smaller := ⟨F6, PySem.W.mg_of X G a6, B6⟩,
      larger := ⟨F7, PySem.W.mg_of X G a7, B7⟩,
      is_less := ⟨F8, PySem.W.mg_of X G a8, B8⟩,
      is_equal := ⟨F9, PySem.W.mg_of X G a9, B9⟩,
      calculate := ⟨F10, PySem.W.mg_of X G a10, B10⟩,
      law_state := ⟨F11, PySem.W.mg_of X G a11, B11⟩,
      law_draw := ⟨F12, PySem.W.mg_of X G a12, B12⟩,
      law_pick := ⟨F13, PySem.W.mg_of X G a13, B13⟩,
      law_number := ⟨F14, PySem.W.mg_of X G a14, B14⟩,
      law_told := ⟨F15, PySem.W.mg_of X G a15, B15⟩,
      law_due := ⟨F16, PySem.W.mg_of X G a16, B16⟩,
      law := ⟨F17, PySem.W.mg_of X G a17, B17⟩,
      len := PySem.W.mg_none_of X G b0,
      abs := PySem.W.mg_none_of X G b1,
      int := PySem.W.mg_none_of X G b2,
      min := PySem.W.mg_none_of X G b3,
      max := PySem.W.mg_none_of X G b4,
      isinstance := PySem.W.mg_none_of X G b5,
      bool := PySem.W.mg_none_of X G b6,
      ValueError := PySem.W.mg_none_of X G b7,
      gFlatError := PySem.W.mg_of X G g0,
      gKindError := PySem.W.mg_of X G g1,
      gTrapError := PySem.W.mg_of X G g2,
      xT := xT,
      kT := kT,
      bT := bT,
      tT := tT,
      iT := iT,
      sT := sT,
      eT := ⟨e1, e2, bT, e4, e5, e6, e7, e8⟩,
      yF := yF,
      yV := yV,
      yK := yK,
      half := ⟨_, PySem.W.mg_of X G hf, _, rfl⟩,
      span := ⟨_, PySem.W.mg_of X G hs, _, rfl⟩,
      gOP := PySem.W.mg_of X G hO,
      o_added := ⟨esO, nO, _, lO, kO, o0, rfl⟩,
      o_subtracted := ⟨esO, nO, _, lO, kO, o1, rfl⟩,
      o_multiplied := ⟨esO, nO, _, lO, kO, o2, rfl⟩,
      o_quotient := ⟨esO, nO, _, lO, kO, o3, rfl⟩,
      o_remainder := ⟨esO, nO, _, lO, kO, o4, rfl⟩,
      o_smaller := ⟨esO, nO, _, lO, kO, o5, rfl⟩,
      o_larger := ⟨esO, nO, _, lO, kO, o6, rfl⟩,
      o_is_less := ⟨esO, nO, _, lO, kO, o7, rfl⟩,
      o_is_equal := ⟨esO, nO, _, lO, kO, o8, rfl⟩ }
  exact ⟨_, fun s v => .of_eq rfl, fun base _ _ => ok_law T⟩
theorem walk {l : PySem.W.OpenLaw} {q : Program} {loose : List Str} {XP : (Str → Option Value) → Heap → Prop} {YP : World → Heap → Prop} {d : DefRec} {K : Params → PySem.W.Frag} (hn : l.most = some 63) (hdf : d.params.defaults = [])
    (hY : ∀ (w : World) (h : Heap), YP w h → (K w.params).In h)
    (F : ∀ (w : World) (mg : Str → Option Value) (fa : Addr) (h : Heap), (K w.params).In h → h.Ns mainGlobals mg → mg d.name = some (.ref fa) →
      ∃ fd : FuncData, (∀ (s : Shared) (u : Value), BindsTo s fd ⟨[u], []⟩ [("script", u)]) ∧ ∀ base : Heap, (K w.params).In base → base.Ns mainGlobals mg → FnOk l.prog w (K w.params) mg base CX0 4 fa fd ["script"] (spLaw (K w.params))) :
    PySem.W.WalkO q loose XP YP l.row.toRowW d [] (fun f vs => PySem.call f vs) :=
  L2.walk_of (n := 63) (k := 4) (x := "script") (CX := fun _ => CX0) (sp := fun w => spLaw (K w.params)) hn (by decide) hdf ⟨rfl, by decide, by decide⟩ hY F (fun _ _ a ns hl _ hS => ⟨a, ns, rfl, hS, hl, fun _ => rfl⟩) fun _ _ _ _ _ z => z
end K1
open PySem PySem.W PyProof.Rows
set_option maxRecDepth 100000 in
set_option maxHeartbeats 0 in
theorem PySem.Challenge.cw_flatsheaves_k01_numbers_holds : PySem.Challenge.rw_flatsheaves_k01_numbers.Holds := by
  w_on; o_law; k_head; (case hw => w_witness2)
  k_fill
  refine K1.walk (l := PySem.Challenge.rw_flatsheaves_k01_numbers) rfl rfl (fun w h Y => PySem.W.kIn_of Y) ?F
  case F =>
    intro w mg fa h KX G hmg
    refine' K1.all_mk KX G hmg ?hha0 ?hhl0 ?hhc0 ?hhk0 ?hha1 ?hhl1 ?hhc1 ?hhk1 ?hha2 ?hhl2 ?hhc2 ?hhk2 ?hha3 ?hhl3 ?hhc3 ?hhk3 ?hha4 ?hhl4 ?hhc4 ?hhk4 ?hha5 ?hhl5 ?hhc5 ?hhk5 ?hha6 ?hhl6 ?hhc6 ?hhk6 ?hha7 ?hhl7 ?hhc7 ?hhk7 ?hha8 ?hhl8 ?hhc8 ?hhk8 ?hha9 ?hhl9 ?hhc9 ?hhk9 ?hha10 ?hhl10 ?hhc10 ?hhk10 ?hha11 ?hhl11 ?hhc11 ?hhk11 ?hha12 ?hhl12 ?hhc12 ?hhk12 ?hha13 ?hhl13 ?hhc13 ?hhk13 ?hha14 ?hhl14 ?hhc14 ?hhk14 ?hha15 ?hhl15 ?hhc15 ?hhk15 ?hha16 ?hhl16 ?hhc16 ?hhk16 ?hha17 ?hhl17 ?hhc17 ?hhk17 ?hhg0 ?hhg1 ?hhg2 ?hhb0 ?hhb1 ?hhb2 ?hhb3 ?hhb4 ?hhb5 ?hhb6 ?hhb7 ?hhxT ?hhkT ?hhbT ?hhtT ?hhiT ?hhsT ?hhe1 ?hhe2 ?hhe4 ?hhe5 ?hhe6 ?hhe7 ?hhe8 ?hhyF ?hhyV ?hhyK ?hhhf ?hhhs ?hhhO ?hhlO ?hhkO ?hho0 ?hho1 ?hho2 ?hho3 ?hho4 ?hho5 ?hho6 ?hho7 ?hho8
    (case hha0 => k_is)
    (case hhl0 => k_is)
    (case hhc0 => k_is)
    (case hhk0 => k_is)
    (case hha1 => k_is)
    (case hhl1 => k_is)
    (case hhc1 => k_is)
    (case hhk1 => k_is)
    (case hha2 => k_is)
    (case hhl2 => k_is)
    (case hhc2 => k_is)
    (case hhk2 => k_is)
    (case hha3 => k_is)
    (case hhl3 => k_is)
    (case hhc3 => k_is)
    (case hhk3 => k_is)
    (case hha4 => k_is)
    (case hhl4 => k_is)
    (case hhc4 => k_is)
    (case hhk4 => k_is)
    (case hha5 => k_is)
    (case hhl5 => k_is)
    (case hhc5 => k_is)
    (case hhk5 => k_is)
    (case hha6 => k_is)
    (case hhl6 => k_is)
    (case hhc6 => k_is)
    (case hhk6 => k_is)
    (case hha7 => k_is)
    (case hhl7 => k_is)
    (case hhc7 => k_is)
    (case hhk7 => k_is)
    (case hha8 => k_is)
    (case hhl8 => k_is)
    (case hhc8 => k_is)
    (case hhk8 => k_is)
    (case hha9 => k_is)
    (case hhl9 => k_is)
    (case hhc9 => k_is)
    (case hhk9 => k_is)
    (case hha10 => k_is)
    (case hhl10 => k_is)
    (case hhc10 => k_is)
    (case hhk10 => k_is)
    (case hha11 => k_is)
    (case hhl11 => k_is)
    (case hhc11 => k_is)
    (case hhk11 => k_is)
    (case hha12 => k_is)
    (case hhl12 => k_is)
    (case hhc12 => k_is)
    (case hhk12 => k_is)
    (case hha13 => k_is)
    (case hhl13 => k_is)
    (case hhc13 => k_is)
    (case hhk13 => k_is)
    (case hha14 => k_is)
    (case hhl14 => k_is)
    (case hhc14 => k_is)
    (case hhk14 => k_is)
    (case hha15 => k_is)
    (case hhl15 => k_is)
    (case hhc15 => k_is)
    (case hhk15 => k_is)
    (case hha16 => k_is)
    (case hhl16 => k_is)
    (case hhc16 => k_is)
    (case hhk16 => k_is)
    (case hha17 => k_is)
    (case hhl17 => k_is)
    (case hhc17 => k_is)
    (case hhk17 => k_is)
    (case hhg0 => k_is)
    (case hhg1 => k_is)
    (case hhg2 => k_is)
    (case hhb0 => k_is)
    (case hhb1 => k_is)
    (case hhb2 => k_is)
    (case hhb3 => k_is)
    (case hhb4 => k_is)
    (case hhb5 => k_is)
    (case hhb6 => k_is)
    (case hhb7 => k_is)
    (case hhxT => k_exc)
    (case hhkT => k_is)
    (case hhbT => k_is)
    (case hhtT => k_is)
    (case hhiT => k_is)
    (case hhsT => k_is)
    (case hhe1 => k_is)
    (case hhe2 => k_is)
    (case hhe4 => k_is)
    (case hhe5 => k_is)
    (case hhe6 => k_is)
    (case hhe7 => k_is)
    (case hhe8 => k_is)
    (case hhyF => kit_is)
    (case hhyV => kit_is)
    (case hhyK => kit_is)
    (case hhhf => k_is)
    (case hhhs => k_is)
    (case hhhO => k_is)
    (case hhlO => k_is)
    (case hhkO => exact ⟨⟨_, _, rfl, rfl⟩, ⟨_, _, rfl, rfl⟩, ⟨_, _, rfl, rfl⟩, ⟨_, _, rfl, rfl⟩, ⟨_, _, rfl, rfl⟩, ⟨_, _, rfl, rfl⟩, ⟨_, _, rfl, rfl⟩, ⟨_, _, rfl, rfl⟩, ⟨_, _, rfl, rfl⟩, trivial⟩)
    (case hho0 => k_is)
    (case hho1 => k_is)
    (case hho2 => k_is)
    (case hho3 => k_is)
    (case hho4 => k_is)
    (case hho5 => k_is)
    (case hho6 => k_is)
    (case hho7 => k_is)
    (case hho8 => k_is)
#print axioms PySem.Challenge.cw_flatsheaves_k01_numbers_holds
