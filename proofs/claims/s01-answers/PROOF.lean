import PyProof.Rows.All
import Wide.All
import OpenK.AllK
import Wide.FinOn
import Open.SpecLaws
import KE.OsHead
import KE.OsGo
import HandS.ForSpec
import PySem.Challenge.RW_sumworkers_s01_answers
set_option Elab.async false
set_option maxRecDepth 100000
set_option maxHeartbeats 4000000
set_option linter.unusedVariables false
namespace Sw
open PySem PySem.Spec PyProof.Rows L2
/-! ### rules of my own -/
theorem meets_extT (l : Addr) (items : Array Value) (n : Nat) (b : Addr) (items2 : Array Value) (n2 : Nat) (dd : Option Addr) (sl : Array (Option Value)) (hs0 : ¬(!items.isEmpty && Builtin.List.listTooLong (items.size + items2.size)) = true) (hs1 : items.size ≤ sizeLine) (hs2 : items.size + items2.size ≤ sizeLine + 1) :
    Meets (Builtin.«list.extend» ⟨[.ref l, .ref b], []⟩) (fun _ R s => s.heap.get? l = some { cls := .type "list", dict := none, data := .seq items n, slots := #[] } ∧ s.heap.get? b = some { cls := .type "tuple", dict := dd, data := .seq items2 n2, slots := sl } ∧ R (.ok (.ret Value.none)) { s with heap := s.heap.update l (Obj.mapSeq fun x => x ++ items2), toks := s.toks }) :=
  .of_wp fun prog w A R s want => by
    obtain ⟨heap, gg, dp, toks, outs⟩ := s
    obtain ⟨atL, atB, want⟩ := want
    have j1 := PySem.AutoSeq1.idx_int
    have j2 := PySem.AutoSeq1.sub_tuple_tuple
    have j3 := PySem.AutoSeq1.sub_list_list
    have j4 := PySem.AutoSeq1.sub_tuple_list
    have j5 := PySem.AutoSeq1.sub_list_tuple
    have both : (items ++ items2).size ≤ sizeLine + 1 := Array.size_append ▸ hs2
    wp_walk using (wpAny_updateSeq atL rfl (hz := hs1) (_hz' := both)), wpAny_loadPart' atL, wpAny_loadPart' atB
    exact ⟨_, rfl, want⟩
section
variable {X : Cx}
/-- xs.extend(t), t a tuple -/
def rExtT (K : PySem.W.Frag) : V → List V → Hp → VK → Prop := fun x vs H Q => ∃ l b xs zs, x = .ref l ∧ vs = [.ref b] ∧ H l = some (.lst xs) ∧ SqT K H b zs ∧ xs.length + zs.length ≤ sizeLine ∧ Q .non (upd H l (.lst (xs ++ zs)))
theorem mt_extT : MtM X "list.extend" (rExtT X.K) := by
  intro pins s σ H x vs v us Q I rx rv h
  obtain ⟨l, b, xs, zs, rfl, rfl, hH, hB, hz, q⟩ := h
  cases rx
  obtain ⟨u, rfl, ru⟩ := rv.one
  cases ru
  obtain ⟨z, its, n, r, hl, e⟩ := I.lstM hH
  obtain ⟨its2, r2, ⟨o, e2, hc, n2, hd⟩, z2⟩ := I.tuple hB
  obtain ⟨cls, dd, data, sl⟩ := o
  dsimp only at hc hd
  subst hc hd
  have hl2 := r2.length
  have hsz : its.toArray.size + its2.toArray.size ≤ sizeLine := by rw [List.size_toArray, List.size_toArray]; omega
  have hlong : ¬ (!its.toArray.isEmpty && Builtin.List.listTooLong (its.toArray.size + its2.toArray.size)) = true := by
    rw [notLongL hsz, Bool.and_false]
    exact Bool.false_ne_true
  refine call_meets PySem.F.slot_list_extend ⟨_, e, rfl⟩ PySem.F.entry_list_extend (PySem.F.args_list_extend_2 _ _)
    (meets_extT l its.toArray n b its2.toArray n2 dd sl hlong (by rw [List.size_toArray]; omega) (by omega)) ⟨e, e2, ?_⟩
  refine ⟨.non, _, I.lset (its' := its ++ its2) hH e (by simp) (r.append r2) ?_, rfl, q⟩
  rw [List.length_append]
  omega
/-- xs[i] of a list, by values (for xs[i] op= e) -/
def rGetL (K : PySem.W.Frag) : V → V → Hp → VK → Prop := fun x y H Q => ∃ (p : Addr) (xs : List V) (j : Nat) (v : V), x = .ref p ∧ y = .int (j : Int) ∧ SqL K H p xs ∧ xs[j]? = some v ∧ Q v H
theorem get_list : PGet X (rGetL X.K) := by
  intro pins s σ H o i ov iv Q I ro ri h
  obtain ⟨p, xs, j, v, rfl, rfl, hq, he, q⟩ := h
  cases ro
  obtain ⟨t, rfl⟩ := ri
  obtain ⟨its, r, pl, hz⟩ := I.list hq
  obtain ⟨w, ew, rw'⟩ := r.get he
  have hj : j < xs.length := (List.getElem?_eq_some_iff.mp he).1
  have hn := line63
  exact wpAny_getItem_list pl.isList (by omega) (by omega) (by simpa using ew) ⟨v, H, I, rw', q⟩
/-- a module's number -/
def Num (mg : Str → Option Value) (x : Str) (n : Int) : Prop := ∃ t, mg x = some (.int n t)
theorem pe_num {x : Str} {n : Int} {pos : Pos} (hg : Gl X x) (hm : Num X.mg x n) (hd : (x == ("__debug__" : Str)) = false := by decide) : PE X (.Name x pos) (tC (.int n)) := by
  obtain ⟨t, e⟩ := hm
  exact pe_glob hg e ⟨_, rfl⟩ hd
/-- d[k] of a written dict with int keys -/
def KDi (K : PySem.W.Frag) (a : Addr) (k : Int) (v : V) : Prop :=
  ∃ es n u, K.lookup a = some ⟨.type "dict", none, .dict es n, #[]⟩ ∧ (∀ e ∈ es, ∃ i t, e.key = .int i t ∧ e.hash = hashInt i) ∧ findBy Value.isInt es k = some u ∧ RelV v u
def rIxI (K : PySem.W.Frag) : R2 := fun x y H Q => ∃ p k v, x = .ref p ∧ y = .int k ∧ KDi K p k v ∧ Q v H
theorem ix_kdi : IxR X (rIxI X.K) := by
  intro value slice pins s σ H x y v u Q I rx ry h hs
  obtain ⟨p, k, r, rfl, rfl, ⟨es, n, u0, hl, hk, e, ru⟩, q⟩ := h
  obtain rfl : v = Value.ref p := rx
  obtain ⟨t, rfl⟩ := ry
  have hm : s.heap.MapOf (intKind X.prog X.w) p (fun k => findBy Value.isInt es k) :=
    ⟨_, es, n, I.kIn _ _ hl, ⟨rfl, rfl, rfl⟩, rfl, fun e he => by
      obtain ⟨i, t, e1, e2⟩ := hk e he
      exact ⟨i, by rw [e1]; exact intKind_is X.prog X.w i t, e2⟩, fun _ => rfl⟩
  exact tail_any hm.typeIs slot_dict_getitem.lookup (wpAny_getItem_of (intKind_is X.prog X.w k t) hm e ⟨r, H, I.tok _, ru, q⟩) hs
/-- o[i](e, ..): the def is one of several, the promise goes with the address -/
structure Held (P : Program) (w : World) (K : PySem.W.Frag) (mg : Str → Option Value) (base : Heap) (k : Nat) (f : Addr) (sp : Sp) : Prop where
  ex : ∃ (fd : FuncData) (ps : List Str), FnOk P w K mg base CX0 k f fd ps sp ∧ PySem.W.keepIn K (.ref f) = true ∧ Binds K fd ps []
def tCallX (P : Program) (w : World) (K : PySem.W.Frag) (mg : Str → Option Value) (base : Heap) (k : Nat) (tf : TE) (t : TA) : TE := fun σ H Q => tf σ H fun u H1 => ∃ f sp, u = .ref f ∧ Held P w K mg base k f sp ∧ t σ H1 fun vs H2 => sp vs H2 Q E0
theorem pe_callX {k : Nat} {o i e : Expr} {es : List Expr} {p pos : Pos} {tf : TE} {t : TA} (hr : Room k X.A) (hf : PE X (.Subscript o i p) tf) (ha : PA X (e :: es) t)
    (he : starEach (e :: es) X.env = (false, eval e X.env) :: starEach es X.env := by rfl) (hpl : (backTo pos (starEach es X.env)).any (·.1) = false := by rfl) :
    PE X (.Call (.Subscript o i p) (e :: es) [] pos) (tCallX X.prog X.w X.K X.mg X.base k tf t) := by
  refine ⟨fun pins s σ H Q I h => ?_⟩
  refine Call_ (thn (hf.run pins s σ H _ I h) fun u s1 ⟨v, H1, I1, r1, f, sp, ev, hh, ht⟩ => ?_)
  subst ev
  cases r1
  obtain ⟨fd, ps, F, hk, hb⟩ := hh.ex
  refine PySem.W.callWith_K (h₀ := X.base) I.ok.mod.kin hk (thn (ha.run pos pins s1 σ _ _ I1 ht) fun us s2 ⟨vs, H2, I2, r, q⟩ => ⟨I2.kIn, ?_⟩) he hpl
  refine run_fn (dvs := []) F hr hb .nil pass0 I2 r ?_
  rw [List.append_nil]
  exact q
end
end Sw

namespace Sw
open PySem PySem.Spec PyProof.Rows L2
/-! ### the text by places -/
def top (i : Nat) : Stmt := PySem.Challenge.pw_sumworkers_s01_answers.main.body.getD i (.Pass ⟨0, 0, 0, 0⟩)
abbrev s_Transaction_init : Stmt := inClass (top 11) 0
theorem c_Transaction_init : FnScope ["self", "number"] ["self", "number"] (defScope s_Transaction_init) := ⟨rfl, rfl, rfl, by decide +kernel, rfl, by decide +kernel, by decide +kernel⟩
abbrev s_Transaction_settle : Stmt := inClass (top 11) 1
theorem c_Transaction_settle : FnScope ["self", "state"] ["self", "state"] (defScope s_Transaction_settle) := ⟨rfl, rfl, rfl, by decide +kernel, rfl, by decide +kernel, by decide +kernel⟩
abbrev s_Keeper_init : Stmt := inClass (top 12) 0
theorem c_Keeper_init : FnScope ["self"] ["self"] (defScope s_Keeper_init) := ⟨rfl, rfl, rfl, by decide +kernel, rfl, by decide +kernel, by decide +kernel⟩
abbrev s_Keeper_serve_begin : Stmt := inClass (top 12) 1
theorem c_Keeper_serve_begin : FnScope ["self"] ["self"] (defScope s_Keeper_serve_begin) := ⟨rfl, rfl, rfl, by decide +kernel, rfl, by decide +kernel, by decide +kernel⟩
abbrev s_Keeper_has_open : Stmt := inClass (top 12) 2
theorem c_Keeper_has_open : FnScope ["self"] ["self"] (defScope s_Keeper_has_open) := ⟨rfl, rfl, rfl, by decide +kernel, rfl, by decide +kernel, by decide +kernel⟩
abbrev s_Keeper_undo : Stmt := inClass (top 12) 3
theorem c_Keeper_undo : FnScope ["self"] ["self"] (defScope s_Keeper_undo) := ⟨rfl, rfl, rfl, by decide +kernel, rfl, by decide +kernel, by decide +kernel⟩
abbrev s_Keeper_serve_log : Stmt := inClass (top 12) 4
theorem c_Keeper_serve_log : FnScope ["self", "epoch", "number", "j"] ["self", "epoch", "number", "j"] (defScope s_Keeper_serve_log) := ⟨rfl, rfl, rfl, by decide +kernel, rfl, by decide +kernel, by decide +kernel⟩
abbrev s_Keeper_is_past : Stmt := inClass (top 12) 5
theorem c_Keeper_is_past : FnScope ["self", "number"] ["self", "number"] (defScope s_Keeper_is_past) := ⟨rfl, rfl, rfl, by decide +kernel, rfl, by decide +kernel, by decide +kernel⟩
abbrev s_Keeper_serve_end : Stmt := inClass (top 12) 6
theorem c_Keeper_serve_end : FnScope ["self", "epoch", "number", "place", "total"] ["self", "epoch", "number", "place", "total"] (defScope s_Keeper_serve_end) := ⟨rfl, rfl, rfl, by decide +kernel, rfl, by decide +kernel, by decide +kernel⟩
abbrev s_Keeper_awaits_marker : Stmt := inClass (top 12) 7
theorem c_Keeper_awaits_marker : FnScope ["self", "j"] ["self", "j"] (defScope s_Keeper_awaits_marker) := ⟨rfl, rfl, rfl, by decide +kernel, rfl, by decide +kernel, by decide +kernel⟩
abbrev s_Keeper_note_marker : Stmt := inClass (top 12) 8
theorem c_Keeper_note_marker : FnScope ["self", "j"] ["self", "j"] (defScope s_Keeper_note_marker) := ⟨rfl, rfl, rfl, by decide +kernel, rfl, by decide +kernel, by decide +kernel⟩
abbrev s_Keeper_close : Stmt := inClass (top 12) 9
theorem c_Keeper_close : FnScope ["self"] ["self"] (defScope s_Keeper_close) := ⟨rfl, rfl, rfl, by decide +kernel, rfl, by decide +kernel, by decide +kernel⟩
abbrev s_Log_init : Stmt := inClass (top 17) 0
theorem c_Log_init : FnScope ["self"] ["self"] (defScope s_Log_init) := ⟨rfl, rfl, rfl, by decide +kernel, rfl, by decide +kernel, by decide +kernel⟩
abbrev s_Log_serve_data : Stmt := inClass (top 17) 1
theorem c_Log_serve_data : FnScope ["self", "epoch", "number", "total", "last"] ["self", "epoch", "number", "total"] (defScope s_Log_serve_data) := ⟨rfl, rfl, rfl, by decide +kernel, rfl, by decide +kernel, by decide +kernel⟩
abbrev s_Log_write_stands : Stmt := inClass (top 17) 2
theorem c_Log_write_stands : FnScope ["self"] ["self"] (defScope s_Log_write_stands) := ⟨rfl, rfl, rfl, by decide +kernel, rfl, by decide +kernel, by decide +kernel⟩
abbrev s_Log_write_goes : Stmt := inClass (top 17) 3
theorem c_Log_write_goes : FnScope ["self", "epoch"] ["self", "epoch"] (defScope s_Log_write_goes) := ⟨rfl, rfl, rfl, by decide +kernel, rfl, by decide +kernel, by decide +kernel⟩
abbrev s_Log_seen_sums : Stmt := inClass (top 17) 4
theorem c_Log_seen_sums : FnScope ["self", "seen", "unmarked", "record"] ["self"] (defScope s_Log_seen_sums) := ⟨rfl, rfl, rfl, by decide +kernel, rfl, by decide +kernel, by decide +kernel⟩
abbrev s_Worker_init : Stmt := inClass (top 20) 0
theorem c_Worker_init : FnScope ["self", "up"] ["self", "up"] (defScope s_Worker_init) := ⟨rfl, rfl, rfl, by decide +kernel, rfl, by decide +kernel, by decide +kernel⟩
abbrev s_Worker_forget : Stmt := inClass (top 20) 1
theorem c_Worker_forget : FnScope ["self"] ["self"] (defScope s_Worker_forget) := ⟨rfl, rfl, rfl, by decide +kernel, rfl, by decide +kernel, by decide +kernel⟩
abbrev s_Worker_go_on_from : Stmt := inClass (top 20) 2
theorem c_Worker_go_on_from : FnScope ["self", "epoch", "place", "total"] ["self", "epoch", "place", "total"] (defScope s_Worker_go_on_from) := ⟨rfl, rfl, rfl, by decide +kernel, rfl, by decide +kernel, by decide +kernel⟩
abbrev s_Worker_turn_to : Stmt := inClass (top 20) 3
theorem c_Worker_turn_to : FnScope ["self", "number"] ["self", "number"] (defScope s_Worker_turn_to) := ⟨rfl, rfl, rfl, by decide +kernel, rfl, by decide +kernel, by decide +kernel⟩
abbrev s_Worker_ask : Stmt := inClass (top 20) 4
theorem c_Worker_ask : FnScope ["self", "numbers", "batch", "request"] ["self", "numbers", "batch"] (defScope s_Worker_ask) := ⟨rfl, rfl, rfl, by decide +kernel, rfl, by decide +kernel, by decide +kernel⟩
abbrev s_Worker_next_request : Stmt := inClass (top 20) 5
theorem c_Worker_next_request : FnScope ["self", "numbers", "batch", "has_more"] ["self", "numbers", "batch"] (defScope s_Worker_next_request) := ⟨rfl, rfl, rfl, by decide +kernel, rfl, by decide +kernel, by decide +kernel⟩
abbrev s_Worker_write_request : Stmt := inClass (top 20) 6
theorem c_Worker_write_request : FnScope ["self", "value", "total", "j"] ["self", "value"] (defScope s_Worker_write_request) := ⟨rfl, rfl, rfl, by decide +kernel, rfl, by decide +kernel, by decide +kernel⟩
abbrev s_Worker_hear : Stmt := inClass (top 20) 7
theorem c_Worker_hear : FnScope ["self", "request", "answer"] ["self", "request", "answer"] (defScope s_Worker_hear) := ⟨rfl, rfl, rfl, by decide +kernel, rfl, by decide +kernel, by decide +kernel⟩
abbrev s_Worker_take : Stmt := inClass (top 20) 8
theorem c_Worker_take : FnScope ["self", "request", "answer", "kind"] ["self", "request", "answer"] (defScope s_Worker_take) := ⟨rfl, rfl, rfl, by decide +kernel, rfl, by decide +kernel, by decide +kernel⟩
abbrev s_Worker_take_data : Stmt := inClass (top 20) 9
theorem c_Worker_take_data : FnScope ["self", "j", "total"] ["self", "j", "total"] (defScope s_Worker_take_data) := ⟨rfl, rfl, rfl, by decide +kernel, rfl, by decide +kernel, by decide +kernel⟩
abbrev s_Job_init : Stmt := inClass (top 35) 0
theorem c_Job_init : FnScope ["self"] ["self"] (defScope s_Job_init) := ⟨rfl, rfl, rfl, by decide +kernel, rfl, by decide +kernel, by decide +kernel⟩
abbrev s_Job_begin : Stmt := inClass (top 35) 1
theorem c_Job_begin : FnScope ["self", "batch"] ["self", "batch"] (defScope s_Job_begin) := ⟨rfl, rfl, rfl, by decide +kernel, rfl, by decide +kernel, by decide +kernel⟩
abbrev s_Job_serve : Stmt := inClass (top 35) 2
theorem c_Job_serve : FnScope ["self", "request", "kind"] ["self", "request"] (defScope s_Job_serve) := ⟨rfl, rfl, rfl, by decide +kernel, rfl, by decide +kernel, by decide +kernel⟩
abbrev s_Job_write_marker : Stmt := inClass (top 35) 3
theorem c_Job_write_marker : FnScope ["self", "j", "state"] ["self", "j"] (defScope s_Job_write_marker) := ⟨rfl, rfl, rfl, by decide +kernel, rfl, by decide +kernel, by decide +kernel⟩
abbrev s_is_worker : Stmt := top 36
theorem c_is_worker : FnScope ["i"] ["i"] (defScope s_is_worker) := ⟨rfl, rfl, rfl, by decide +kernel, rfl, by decide +kernel, by decide +kernel⟩
abbrev s_is_log : Stmt := top 37
theorem c_is_log : FnScope ["j"] ["j"] (defScope s_is_log) := ⟨rfl, rfl, rfl, by decide +kernel, rfl, by decide +kernel, by decide +kernel⟩
abbrev s_call_begin : Stmt := top 38
theorem c_call_begin : FnScope ["job", "given", "batch"] ["job", "given"] (defScope s_call_begin) := ⟨rfl, rfl, rfl, by decide +kernel, rfl, by decide +kernel, by decide +kernel⟩
abbrev s_call_input : Stmt := top 39
theorem c_call_input : FnScope ["job", "given", "value"] ["job", "given"] (defScope s_call_input) := ⟨rfl, rfl, rfl, by decide +kernel, rfl, by decide +kernel, by decide +kernel⟩
abbrev s_call_work : Stmt := top 40
theorem c_call_work : FnScope ["job", "given", "i", "how", "worker", "request"] ["job", "given"] (defScope s_call_work) := ⟨rfl, rfl, rfl, by decide +kernel, rfl, by decide +kernel, by decide +kernel⟩
abbrev s_send : Stmt := top 41
theorem c_send : FnScope ["job", "worker", "request", "how", "answer"] ["job", "worker", "request", "how"] (defScope s_send) := ⟨rfl, rfl, rfl, by decide +kernel, rfl, by decide +kernel, by decide +kernel⟩
abbrev s_call_arrive : Stmt := top 42
theorem c_call_arrive : FnScope ["job", "given", "k", "request", "answer"] ["job", "given"] (defScope s_call_arrive) := ⟨rfl, rfl, rfl, by decide +kernel, rfl, by decide +kernel, by decide +kernel⟩
abbrev s_call_air : Stmt := top 43
theorem c_call_air : FnScope ["job", "given", "told", "request"] ["job", "given"] (defScope s_call_air) := ⟨rfl, rfl, rfl, by decide +kernel, rfl, by decide +kernel, by decide +kernel⟩
abbrev s_call_crash : Stmt := top 44
theorem c_call_crash : FnScope ["job", "given"] ["job", "given"] (defScope s_call_crash) := ⟨rfl, rfl, rfl, by decide +kernel, rfl, by decide +kernel, by decide +kernel⟩
abbrev s_call_start : Stmt := top 45
theorem c_call_start : FnScope ["job", "given"] ["job", "given"] (defScope s_call_start) := ⟨rfl, rfl, rfl, by decide +kernel, rfl, by decide +kernel, by decide +kernel⟩
abbrev s_put_worker : Stmt := top 46
theorem c_put_worker : FnScope ["job", "i", "up"] ["job", "i", "up"] (defScope s_put_worker) := ⟨rfl, rfl, rfl, by decide +kernel, rfl, by decide +kernel, by decide +kernel⟩
abbrev s_call_push : Stmt := top 47
theorem c_call_push : FnScope ["job", "given", "j"] ["job", "given"] (defScope s_call_push) := ⟨rfl, rfl, rfl, by decide +kernel, rfl, by decide +kernel, by decide +kernel⟩
abbrev s_call_expire : Stmt := top 48
theorem c_call_expire : FnScope ["job", "given"] ["job", "given"] (defScope s_call_expire) := ⟨rfl, rfl, rfl, by decide +kernel, rfl, by decide +kernel, by decide +kernel⟩
abbrev s_call_read : Stmt := top 49
theorem c_call_read : FnScope ["job", "given", "j", "sums"] ["job", "given"] (defScope s_call_read) := ⟨rfl, rfl, rfl, by decide +kernel, rfl, by decide +kernel, by decide +kernel⟩
abbrev s_call_raw : Stmt := top 50
theorem c_call_raw : FnScope ["job", "given", "j", "told", "record"] ["job", "given"] (defScope s_call_raw) := ⟨rfl, rfl, rfl, by decide +kernel, rfl, by decide +kernel, by decide +kernel⟩
abbrev s_call_worker : Stmt := top 51
theorem c_call_worker : FnScope ["job", "given", "i", "one"] ["job", "given"] (defScope s_call_worker) := ⟨rfl, rfl, rfl, by decide +kernel, rfl, by decide +kernel, by decide +kernel⟩
abbrev s_call_keeper : Stmt := top 52
theorem c_call_keeper : FnScope ["job", "given", "one", "told"] ["job", "given"] (defScope s_call_keeper) := ⟨rfl, rfl, rfl, by decide +kernel, rfl, by decide +kernel, by decide +kernel⟩
abbrev s_tell_transaction : Stmt := top 53
theorem c_tell_transaction : FnScope ["transaction", "told", "flag"] ["transaction"] (defScope s_tell_transaction) := ⟨rfl, rfl, rfl, by decide +kernel, rfl, by decide +kernel, by decide +kernel⟩
abbrev s_answers : Stmt := top 55
theorem c_answers : FnScope ["calls", "job", "told", "at", "call", "behind", "answer"] ["calls"] (defScope s_answers) := ⟨rfl, rfl, rfl, by decide +kernel, rfl, by decide +kernel, by decide +kernel⟩
/-! ### what the top leaves -/
structure MF (K : PySem.W.Frag) (C : Addr) (m qual : Str) (st : Stmt) (ps : List Str) : Prop where
  ex : ∃ f fd, Meth K C m f ∧ Fun K m qual st f fd ∧ Binds K fd ps []
structure GF (K : PySem.W.Frag) (mg : Str → Option Value) (x : Str) (st : Stmt) (ps : List Str) : Prop where
  ex : ∃ f fd, mg x = some (.ref f) ∧ Fun K x x st f fd ∧ Binds K fd ps []
/-- a method's, a def's, an __init__'s promise is kept -/
def MOk (P : Program) (w : World) (K : PySem.W.Frag) (mg : Str → Option Value) (base : Heap) (C : Addr) (m : Str) (k : Nat) (ps : List Str) (sp : Sp) : Prop := ∃ f fd, Meth K C m f ∧ Binds K fd ps [] ∧ FnOk P w K mg base CX0 k f fd ps sp
def GOk (P : Program) (w : World) (K : PySem.W.Frag) (mg : Str → Option Value) (base : Heap) (x : Str) (k : Nat) (ps : List Str) (sp : Sp) : Prop := ∃ f fd, mg x = some (.ref f) ∧ PySem.W.keepIn K (.ref f) = true ∧ Binds K fd ps [] ∧ FnOk P w K mg base CX0 k f fd ps sp
def IOk (P : Program) (w : World) (K : PySem.W.Frag) (mg : Str → Option Value) (base : Heap) (C : Addr) (k : Nat) (ps : List Str) (sp : Sp) : Prop := ∃ f fd, Mk K C f ∧ Binds K fd ps [] ∧ FnOk P w K mg base CX0 k f fd ps sp
structure Klass (K : PySem.W.Frag) (mg : Str → Option Value) (x : Str) (C : Addr) : Prop where
  cl : Cls K C
  mgC : mg x = some (.ref C)
  makes : PySem.W.makesIn K C = true
  kp : PySem.W.keepIn K (.ref C) = true
structure Txt (K : PySem.W.Frag) (mg : Str → Option Value) (CTransaction CKeeper CLog CWorker CJob : Addr) : Prop where
  Transaction : Klass K mg "Transaction" CTransaction
  n_Transaction_number : NoAttr K CTransaction "number"
  n_Transaction_state : NoAttr K CTransaction "state"
  n_Transaction_has_log : NoAttr K CTransaction "has_log"
  n_Transaction_lacks_marker : NoAttr K CTransaction "lacks_marker"
  n_Transaction_place : NoAttr K CTransaction "place"
  n_Transaction_total : NoAttr K CTransaction "total"
  m_Transaction_init : MF K CTransaction "__init__" "Transaction.__init__" s_Transaction_init ["self", "number"]
  m_Transaction_settle : MF K CTransaction "settle" "Transaction.settle" s_Transaction_settle ["self", "state"]
  Keeper : Klass K mg "Keeper" CKeeper
  n_Keeper_epoch : NoAttr K CKeeper "epoch"
  n_Keeper_last_ended : NoAttr K CKeeper "last_ended"
  n_Keeper_place : NoAttr K CKeeper "place"
  n_Keeper_total : NoAttr K CKeeper "total"
  n_Keeper_transaction : NoAttr K CKeeper "transaction"
  m_Keeper_init : MF K CKeeper "__init__" "Keeper.__init__" s_Keeper_init ["self"]
  m_Keeper_serve_begin : MF K CKeeper "serve_begin" "Keeper.serve_begin" s_Keeper_serve_begin ["self"]
  m_Keeper_has_open : MF K CKeeper "has_open" "Keeper.has_open" s_Keeper_has_open ["self"]
  m_Keeper_undo : MF K CKeeper "undo" "Keeper.undo" s_Keeper_undo ["self"]
  m_Keeper_serve_log : MF K CKeeper "serve_log" "Keeper.serve_log" s_Keeper_serve_log ["self", "epoch", "number", "j"]
  m_Keeper_is_past : MF K CKeeper "is_past" "Keeper.is_past" s_Keeper_is_past ["self", "number"]
  m_Keeper_serve_end : MF K CKeeper "serve_end" "Keeper.serve_end" s_Keeper_serve_end ["self", "epoch", "number", "place", "total"]
  m_Keeper_awaits_marker : MF K CKeeper "awaits_marker" "Keeper.awaits_marker" s_Keeper_awaits_marker ["self", "j"]
  m_Keeper_note_marker : MF K CKeeper "note_marker" "Keeper.note_marker" s_Keeper_note_marker ["self", "j"]
  m_Keeper_close : MF K CKeeper "close" "Keeper.close" s_Keeper_close ["self"]
  Log : Klass K mg "Log" CLog
  n_Log_records : NoAttr K CLog "records"
  n_Log_epoch : NoAttr K CLog "epoch"
  n_Log_last_number : NoAttr K CLog "last_number"
  m_Log_init : MF K CLog "__init__" "Log.__init__" s_Log_init ["self"]
  m_Log_serve_data : MF K CLog "serve_data" "Log.serve_data" s_Log_serve_data ["self", "epoch", "number", "total"]
  m_Log_write_stands : MF K CLog "write_stands" "Log.write_stands" s_Log_write_stands ["self"]
  m_Log_write_goes : MF K CLog "write_goes" "Log.write_goes" s_Log_write_goes ["self", "epoch"]
  m_Log_seen_sums : MF K CLog "seen_sums" "Log.seen_sums" s_Log_seen_sums ["self"]
  Worker : Klass K mg "Worker" CWorker
  n_Worker_up : NoAttr K CWorker "up"
  n_Worker_number : NoAttr K CWorker "number"
  n_Worker_epoch : NoAttr K CWorker "epoch"
  n_Worker_place : NoAttr K CWorker "place"
  n_Worker_total : NoAttr K CWorker "total"
  n_Worker_next_numbers : NoAttr K CWorker "next_numbers"
  n_Worker_granted_logs : NoAttr K CWorker "granted_logs"
  n_Worker_granted_data : NoAttr K CWorker "granted_data"
  n_Worker_ending : NoAttr K CWorker "ending"
  m_Worker_init : MF K CWorker "__init__" "Worker.__init__" s_Worker_init ["self", "up"]
  m_Worker_forget : MF K CWorker "forget" "Worker.forget" s_Worker_forget ["self"]
  m_Worker_go_on_from : MF K CWorker "go_on_from" "Worker.go_on_from" s_Worker_go_on_from ["self", "epoch", "place", "total"]
  m_Worker_turn_to : MF K CWorker "turn_to" "Worker.turn_to" s_Worker_turn_to ["self", "number"]
  m_Worker_ask : MF K CWorker "ask" "Worker.ask" s_Worker_ask ["self", "numbers", "batch"]
  m_Worker_next_request : MF K CWorker "next_request" "Worker.next_request" s_Worker_next_request ["self", "numbers", "batch"]
  m_Worker_write_request : MF K CWorker "write_request" "Worker.write_request" s_Worker_write_request ["self", "value"]
  m_Worker_hear : MF K CWorker "hear" "Worker.hear" s_Worker_hear ["self", "request", "answer"]
  m_Worker_take : MF K CWorker "take" "Worker.take" s_Worker_take ["self", "request", "answer"]
  m_Worker_take_data : MF K CWorker "take_data" "Worker.take_data" s_Worker_take_data ["self", "j", "total"]
  Job : Klass K mg "Job" CJob
  n_Job_batch : NoAttr K CJob "batch"
  n_Job_numbers : NoAttr K CJob "numbers"
  n_Job_logs : NoAttr K CJob "logs"
  n_Job_keeper : NoAttr K CJob "keeper"
  n_Job_workers : NoAttr K CJob "workers"
  n_Job_air : NoAttr K CJob "air"
  m_Job_init : MF K CJob "__init__" "Job.__init__" s_Job_init ["self"]
  m_Job_begin : MF K CJob "begin" "Job.begin" s_Job_begin ["self", "batch"]
  m_Job_serve : MF K CJob "serve" "Job.serve" s_Job_serve ["self", "request"]
  m_Job_write_marker : MF K CJob "write_marker" "Job.write_marker" s_Job_write_marker ["self", "j"]
  g_is_worker : GF K mg "is_worker" s_is_worker ["i"]
  g_is_log : GF K mg "is_log" s_is_log ["j"]
  g_call_begin : GF K mg "call_begin" s_call_begin ["job", "given"]
  g_call_input : GF K mg "call_input" s_call_input ["job", "given"]
  g_call_work : GF K mg "call_work" s_call_work ["job", "given"]
  g_send : GF K mg "send" s_send ["job", "worker", "request", "how"]
  g_call_arrive : GF K mg "call_arrive" s_call_arrive ["job", "given"]
  g_call_air : GF K mg "call_air" s_call_air ["job", "given"]
  g_call_crash : GF K mg "call_crash" s_call_crash ["job", "given"]
  g_call_start : GF K mg "call_start" s_call_start ["job", "given"]
  g_put_worker : GF K mg "put_worker" s_put_worker ["job", "i", "up"]
  g_call_push : GF K mg "call_push" s_call_push ["job", "given"]
  g_call_expire : GF K mg "call_expire" s_call_expire ["job", "given"]
  g_call_read : GF K mg "call_read" s_call_read ["job", "given"]
  g_call_raw : GF K mg "call_raw" s_call_raw ["job", "given"]
  g_call_worker : GF K mg "call_worker" s_call_worker ["job", "given"]
  g_call_keeper : GF K mg "call_keeper" s_call_keeper ["job", "given"]
  g_tell_transaction : GF K mg "tell_transaction" s_tell_transaction ["transaction"]
  g_answers : GF K mg "answers" s_answers ["calls"]
  k_BEGIN : Num mg "BEGIN" 1
  k_LOG : Num mg "LOG" 2
  k_DATA : Num mg "DATA" 3
  k_END : Num mg "END" 4
  k_GRANTED : Num mg "GRANTED" 1
  k_WAIT : Num mg "WAIT" 2
  k_SHUT_OUT : Num mg "SHUT_OUT" 3
  k_IS_OPEN : Num mg "IS_OPEN" 0
  k_TO_STAND : Num mg "TO_STAND" 1
  k_TO_GO : Num mg "TO_GO" 2
  k_DATA_RECORD : Num mg "DATA_RECORD" 1
  k_STANDS_RECORD : Num mg "STANDS_RECORD" 2
  k_GOES_RECORD : Num mg "GOES_RECORD" 3
  k_MODULUS : Num mg "MODULUS" 1000003
  k_FIRST_BATCH : Num mg "FIRST_BATCH" 2
  k_LARGEST_BATCH : Num mg "LARGEST_BATCH" 5
  k_LARGEST_VALUE : Num mg "LARGEST_VALUE" 1000
  k_WORKER_COUNT : Num mg "WORKER_COUNT" 3
  k_LOG_COUNT : Num mg "LOG_COUNT" 2
  k_IS_ANSWERED : Num mg "IS_ANSWERED" 0
  k_ANSWER_IS_LOST : Num mg "ANSWER_IS_LOST" 1
  k_IS_IN_THE_AIR : Num mg "IS_IN_THE_AIR" 3
  k_OUT_OF_RANGE : Num mg "OUT_OF_RANGE" (-1)
  k_NO_SUCH_WAY : Num mg "NO_SUCH_WAY" (-2)
  k_WRONG_TRANSACTION_STATE : Num mg "WRONG_TRANSACTION_STATE" (-4)
  k_NOT_IN_THE_AIR : Num mg "NOT_IN_THE_AIR" (-5)
  k_WRONG_WORKER_STATE : Num mg "WRONG_WORKER_STATE" (-6)
  b_int : mg "int" = none
  b_len : mg "len" = none
  b_list : mg "list" = none
end Sw

namespace Sw
open PySem PySem.Spec PyProof.Rows L2
/-! ### heaps -/
/-- what stood stands, but at S; tuples stand -/
structure Kp (S : List Addr) (H H' : Hp) : Prop where
  keep : ∀ b o, H b = some o → b ∉ S → H' b = some o
  tups : ∀ b xs, H b = some (.tup xs) → H' b = some (.tup xs)
theorem Kp.refl (S : List Addr) (H : Hp) : Kp S H H := ⟨fun _ _ h _ => h, fun _ _ h => h⟩
theorem Kp.trans {S : List Addr} {H H1 H2 : Hp} (a : Kp S H H1) (b : Kp S H1 H2) : Kp S H H2 :=
  ⟨fun c o h n => b.keep c o (a.keep c o h n) n, fun c xs h => b.tups c xs (a.tups c xs h)⟩
theorem Kp.mono {S S' : List Addr} {H H1 : Hp} (a : Kp S H H1) (s : ∀ b ∈ S, b ∈ S') : Kp S' H H1 := ⟨fun c o h n => a.keep c o h fun z => n (s c z), a.tups⟩
theorem Kp.upd {S : List Addr} {H : Hp} {p : Addr} {o u : HO} (hp : p ∈ S) (e : H p = some o) (nt : ∀ xs, o ≠ .tup xs) : Kp S H (upd H p u) :=
  ⟨fun b v h n => by rw [upd_ne (fun z => n (by rw [z]; exact hp))]; exact h, fun b xs h => by rw [upd_ne (fun z => nt xs (Option.some.inj (e.symm.trans (by rw [← z]; exact h))))]; exact h⟩
theorem Kp.new {S : List Addr} {H : Hp} {p : Addr} {u : HO} (e : H p = none) : Kp S H (L2.upd H p u) :=
  ⟨fun b v h _ => by rw [upd_ne (ne_of_none h e)]; exact h, fun b xs h => by rw [upd_ne (ne_of_none h e)]; exact h⟩
theorem Kp.same {H H' : Hp} (a : Kp [] H H') : Same H H' := fun b o h => a.keep b o h (by simp)
theorem Same.kp {H H' : Hp} (a : Same H H') (S : List Addr) : Kp S H H' := ⟨fun b o h _ => a b o h, fun b xs h => a b _ h⟩
/-- tuples of these items stand at ts -/
structure Tups (H : Hp) (ts : List Addr) (xs : List (List V)) : Prop where
  len : ts.length = xs.length
  at_ : ∀ (i : Nat) (t : Addr) (x : List V), ts[i]? = some t → xs[i]? = some x → H t = some (.tup x)
theorem Tups.keep {H H' : Hp} {ts : List Addr} {xs : List (List V)} (t : Tups H ts xs) (k : ∀ b xs, H b = some (.tup xs) → H' b = some (.tup xs)) : Tups H' ts xs := ⟨t.len, fun i a x h1 h2 => k _ _ (t.at_ i a x h1 h2)⟩
theorem Tups.nil (H : Hp) : Tups H [] [] := ⟨rfl, fun i t x h _ => by simp at h⟩
theorem Tups.snoc {H : Hp} {ts : List Addr} {xs : List (List V)} {p : Addr} {x : List V} (t : Tups H ts xs) (h : H p = some (.tup x)) : Tups H (ts ++ [p]) (xs ++ [x]) := by
  refine ⟨by simp [t.len], fun i a y h1 h2 => ?_⟩
  have hl := t.len
  by_cases hi : i < ts.length
  · rw [List.getElem?_append_left hi] at h1
    rw [List.getElem?_append_left (hl ▸ hi)] at h2
    exact t.at_ i a y h1 h2
  · rw [List.getElem?_append_right (by omega)] at h1 h2
    have e1 : i - ts.length = 0 := by
      have := (List.getElem?_eq_some_iff.mp h1).1
      simp at this
      omega
    have e2 : i - xs.length = 0 := by omega
    rw [e1] at h1
    rw [e2] at h2
    simp at h1 h2
    subst h1 h2
    exact h
/-! ### a log -/
abbrev vn (n : Nat) : V := .int (n : Int)
theorem vn_inj {a b : Nat} : vn a = vn b ↔ a = b := ⟨fun h => Int.ofNat.inj (V.int.inj h), fun h => by rw [h]⟩
def recT : Hs08.Rec → List V
  | .data e v => [.int 1, vn e, vn v]
  | .commit => [.int 2]
  | .abort => [.int 3]
def lf (r : Addr) (e q : Nat) : List (Str × V) := [("records", .ref r), ("epoch", vn e), ("last_number", vn q)]
theorem lf_records (r : Addr) (e q : Nat) : (lf r e q).lookup ("records" : Str) = some (.ref r) := by rfl
theorem lf_epoch (r : Addr) (e q : Nat) : (lf r e q).lookup ("epoch" : Str) = some (vn e) := by rfl
theorem lf_last (r : Addr) (e q : Nat) : (lf r e q).lookup ("last_number" : Str) = some (vn q) := by rfl
theorem lf_pe (r : Addr) (e q e' : Nat) : putF "epoch" (vn e') (lf r e q) = lf r e' q := by rfl
theorem lf_pl (r : Addr) (e q q' : Nat) : putF "last_number" (vn q') (lf r e q) = lf r e q' := by rfl
structure LogAt (C : Addr) (H : Hp) (p r : Addr) (x : Hs08.Log) : Prop where
  ex : ∃ dx ts, H p = some (.ins C dx (lf r x.epoch x.seq)) ∧ H r = some (.lst (ts.map V.ref)) ∧ Tups H ts (x.recs.map recT)
theorem LogAt.keep {C p r : Addr} {H H' : Hp} {x : Hs08.Log} {S : List Addr} (L : LogAt C H p r x) (k : Kp S H H') (h1 : p ∉ S) (h2 : r ∉ S) : LogAt C H' p r x := by
  obtain ⟨dx, ts, a, b, t⟩ := L.ex
  exact ⟨dx, ts, k.keep _ _ a h1, k.keep _ _ b h2, t.keep k.tups⟩
theorem LogAt.ne {C p r : Addr} {H : Hp} {x : Hs08.Log} (L : LogAt C H p r x) : p ≠ r := by
  obtain ⟨dx, ts, a, b, t⟩ := L.ex
  exact ne_of a b (by intro z; cases z)
/-- data is served, by the log alone -/
def addL (x : Hs08.Log) (e seq v : Nat) : Hs08.Log × Hs08.Ans :=
  if e < x.epoch then (x, .out) else
  if seq ≤ (if e = x.epoch then x.seq else 0) then (x, .ok 0 0 0) else if seq = (if e = x.epoch then x.seq else 0) + 1 then (⟨x.recs ++ [.data e v], e, seq⟩, .ok 0 0 0) else (x, .out)
/-- an answer as its tuple -/
def ansT (b : Bool) : Hs08.Ans → List V
  | .ok e p s => if b = true then [.int 1, vn e, vn p, vn s] else [.int 1]
  | .wait => [.int 2]
  | .out => [.int 3]
def spLogInit (C : Addr) : Sp := fun vs H Q _ => ∃ (p dx : Addr), vs = [.ref p] ∧ H p = some (.ins C dx []) ∧ ∀ (H' : Hp) (r : Addr), H r = none → LogAt C H' p r ⟨[], 0, 0⟩ → Kp [p] H H' → Q .non H'
def spServeData (C : Addr) : Sp := fun vs H Q _ => ∃ (p r : Addr) (x : Hs08.Log) (e q v : Nat), vs = [.ref p, vn e, vn q, vn v] ∧ LogAt C H p r x ∧ x.recs.length < 1000000 ∧
  ∀ (H' : Hp) (t : Addr), H' t = some (.tup (ansT false (addL x e q v).2)) → LogAt C H' p r (addL x e q v).1 → Kp [p, r] H H' → Q (.ref t) H'
section
variable {P : Program} {w : World} {K : PySem.W.Frag} {mg : Str → Option Value} {base : Heap} {CT CK CL CW CJ : Addr}
theorem ok_Log_init (T : Txt K mg CT CK CL CW CJ) : IOk P w K mg base CL 1 ["self"] (spLogInit CL) := by
  obtain ⟨f, fd, M, F, B⟩ := T.m_Log_init.ex
  refine ⟨f, fd, ⟨T.Log.makes, M.at_, M.fn, T.Log.kp⟩, B, F.ok c_Log_init (fun vs H Q E h => ?_) (fun cdv A outer s H vs Q E hr h => ?_)⟩
  · obtain ⟨p, dx, rfl, _⟩ := h
    rfl
  · obtain ⟨p, dx, rfl, hp, k⟩ := h
    refine ⟨_, pss_cons (ps_fld (pv 0) (pe_lst pa_nil) rfl) (pss_cons (ps_fld (pv 0) pe_int rfl) (pss_one (ps_fld (pv 0) pe_int rfl))), ?_⟩
    refine ⟨Nat.zero_le _, fun r hr' => ?_⟩
    have npr : p ≠ r := ne_of_none hp hr'
    refine ⟨_, rfl, p, CL, dx, [], rfl, by rw [upd_ne npr]; exact hp, T.Log.cl, T.n_Log_records, by decide, ?_⟩
    refine ⟨_, rfl, p, CL, dx, _, rfl, upd_same, T.Log.cl, T.n_Log_epoch, by show 1 < 1000; decide, ?_⟩
    refine ⟨_, rfl, p, CL, dx, _, rfl, upd_same, T.Log.cl, T.n_Log_last_number, by show 2 < 1000; decide, ?_⟩
    rw [upd_upd, upd_upd]
    refine k _ r hr' ⟨dx, [], upd_same, by rw [upd_ne npr.symm, upd_same]; rfl, Tups.nil _⟩ ?_
    exact (Kp.new hr').trans (Kp.upd (by simp) (by rw [upd_ne npr]; exact hp) (by intro xs z; cases z))
theorem ok_Log_serve_data (T : Txt K mg CT CK CL CW CJ) : MOk P w K mg base CL "serve_data" 1 ["self", "epoch", "number", "total"] (spServeData CL) := by
  obtain ⟨f, fd, M, F, B⟩ := T.m_Log_serve_data.ex
  refine ⟨f, fd, M, B, F.ok c_Log_serve_data (fun vs H Q E h => ?_) (fun cdv A outer s H vs Q E hr h => ?_)⟩
  · obtain ⟨p, r, x, e, q, v, rfl, _⟩ := h
    rfl
  · obtain ⟨p, r, x, e, q, v, rfl, L, hlen, k⟩ := h
    have nd := c_Log_serve_data.nd
    have npr := L.ne
    obtain ⟨dx, ts, h1, h2, h3⟩ := L.ex
    refine ⟨_, pss_cons (ps_if (pt_cmpR op_lt (pv 1) (pe_fld (pv 0) rfl) (nomark _)) (pss_one (ps_ret (pe_tup (pa_cons (pe_num rfl T.k_SHUT_OUT) pa_nil)))) pss_nil)
      (pss_cons (ps_set (i := 4) nd rfl (Or.inl rfl) (pe_ifExp (pt_cmpR op_eq (pv 1) (pe_fld (pv 0) rfl) (nomark _)) (pe_fld (pv 0) rfl) pe_int))
      (pss_cons (ps_if (pt_cmpR op_le (pv 2) (pv 4) (nomark _)) (pss_one (ps_ret (pe_tup (pa_cons (pe_num rfl T.k_GRANTED) pa_nil)))) pss_nil)
      (pss_cons (ps_if (pt_cmpR op_gt (pv 2) (pe_op op_add (pv 4) pe_int) (nomark _)) (pss_one (ps_ret (pe_tup (pa_cons (pe_num rfl T.k_SHUT_OUT) pa_nil)))) pss_nil)
      (pss_cons (ps_expr (pe_bm PySem.F.plainAttrs_list PySem.F.slot_list_append PySem.F.type_list_append mt_append (pe_fld (pv 0) rfl) (pa_cons (pe_tup (pa_cons (pe_num rfl T.k_DATA_RECORD) (pa_cons (pv 1) (pa_cons (pv 3) pa_nil)))) pa_nil)))
      (pss_cons (ps_fld (pv 0) (pv 1) rfl)
      (pss_cons (ps_fld (pv 0) (pv 2) rfl)
      (pss_one (ps_ret (pe_tup (pa_cons (pe_num rfl T.k_GRANTED) pa_nil)))))))))), ?_⟩
    refine ⟨_, rfl, _, rfl, p, CL, dx, _, _, rfl, h1, T.Log.cl, T.n_Log_epoch, lf_epoch _ _ _, _, _, rfl, rfl, _, rfl, ite2 (fun c => ?_) (fun c => ?_)⟩
    · have c' : e < x.epoch := by simpa using c
      refine ⟨by show 1 ≤ sizeLine; decide, fun t ht => ?_⟩
      have ea : addL x e q v = (x, .out) := by unfold addL; rw [if_pos c']
      rw [ea] at k
      exact k _ t upd_same (L.keep (S := []) (Kp.new ht) (by simp) (by simp)) (Kp.new ht)
    · have c' : ¬ e < x.epoch := by simpa using c
      refine ⟨_, rfl, _, rfl, p, CL, dx, _, _, rfl, h1, T.Log.cl, T.n_Log_epoch, lf_epoch _ _ _, rfl, _, rfl, ?_⟩
      -- last
      generalize hla : (if e = x.epoch then x.seq else 0) = la
      have go : ∀ (Q' : V → Hp → Prop), Q' (vn la) H → (if decide (vn e = vn x.epoch) = true then tFld K (tVar 0) "last_number" [some (.ref p), some (vn e), some (vn q), some (vn v), none] H Q' else tC (.int 0) [some (.ref p), some (vn e), some (vn q), some (vn v), none] H Q') := by
        intro Q' hQ
        refine ite2 (fun d => ?_) (fun d => ?_)
        · have d' : e = x.epoch := vn_inj.mp (of_decide_eq_true d)
          rw [if_pos d'] at hla
          rw [← hla] at hQ
          exact ⟨_, rfl, p, CL, dx, _, _, rfl, h1, T.Log.cl, T.n_Log_last_number, lf_last _ _ _, hQ⟩
        · have d' : ¬ e = x.epoch := fun z => d (decide_eq_true (vn_inj.mpr z))
          rw [if_neg d'] at hla
          rw [← hla] at hQ
          exact hQ
      refine go _ ?_
      have ea0 : addL x e q v = if q ≤ la then (x, .ok 0 0 0) else if q = la + 1 then (⟨x.recs ++ [.data e v], e, q⟩, .ok 0 0 0) else (x, .out) := by
        unfold addL; rw [if_neg c', hla]
      refine ⟨_, rfl, _, rfl, _, _, rfl, rfl, _, rfl, ite2 (fun d => ?_) (fun d => ?_)⟩
      · have d' : q ≤ la := by simpa using d
        refine ⟨by show 1 ≤ sizeLine; decide, fun t ht => ?_⟩
        rw [ea0, if_pos d'] at k
        exact k _ t upd_same (L.keep (S := []) (Kp.new ht) (by simp) (by simp)) (Kp.new ht)
      · have d' : ¬ q ≤ la := by simpa using d
        refine ⟨_, rfl, _, rfl, _, _, rfl, rfl, _, _, rfl, rfl, _, rfl, ite2 (fun g => ?_) (fun g => ?_)⟩
        · have g0 := of_decide_eq_true g
          have g' : ¬ q = la + 1 := by omega
          refine ⟨by show 1 ≤ sizeLine; decide, fun t ht => ?_⟩
          rw [ea0, if_neg d', if_neg g'] at k
          exact k _ t upd_same (L.keep (S := []) (Kp.new ht) (by simp) (by simp)) (Kp.new ht)
        · have g0 : ¬ _ := fun z => g (decide_eq_true z)
          have g' : q = la + 1 := by omega
          rw [ea0, if_neg d', if_pos g'] at k
          refine ⟨_, rfl, p, CL, dx, _, _, rfl, h1, T.Log.cl, T.n_Log_records, lf_records _ _ _, .inl ⟨rfl, _, SqL.of h2⟩, ?_⟩
          refine ⟨_, rfl, _, rfl, by show 3 ≤ sizeLine; decide, fun t ht => ?_⟩
          have ntp : p ≠ t := ne_of_none h1 ht
          have ntr : r ≠ t := ne_of_none h2 ht
          refine ⟨r, _, _, rfl, rfl, by rw [upd_ne ntr]; exact h2, ?_, ?_⟩
          · rw [List.length_map, h3.len, List.length_map]
            exact Nat.lt_of_lt_of_le hlen (by decide)
          · refine ⟨_, rfl, _, rfl, p, CL, dx, _, rfl, by rw [upd_ne npr, upd_ne ntp]; exact h1, T.Log.cl, T.n_Log_epoch, by show 3 < 1000; decide, ?_⟩
            refine ⟨_, rfl, _, rfl, p, CL, dx, _, rfl, upd_same, T.Log.cl, T.n_Log_last_number, by show 3 < 1000; decide, ?_⟩
            rw [upd_upd]
            refine ⟨by show 1 ≤ sizeLine; decide, fun t' ht' => ?_⟩
            have k1 : Kp [p, r] H (upd H t (.tup [.int 1, vn e, vn v])) := Kp.new ht
            have k2 := k1.trans (Kp.upd (p := r) (o := .lst (ts.map V.ref)) (u := .lst (ts.map V.ref ++ [.ref t])) (by simp) (by rw [upd_ne ntr]; exact h2) (by intro xs z; cases z))
            have hp2 : upd (upd H t (.tup [.int 1, vn e, vn v])) r (.lst (ts.map V.ref ++ [.ref t])) p = some (.ins CL dx (lf r x.epoch x.seq)) := by rw [upd_ne npr, upd_ne ntp]; exact h1
            have k3 := k2.trans (Kp.upd (p := p) (o := .ins CL dx (lf r x.epoch x.seq)) (u := .ins CL dx (lf r e q)) (by simp) hp2 (by intro xs z; cases z))
            have k4 := k3.trans (Kp.new (u := .tup [.int 1]) ht')
            refine k _ t' upd_same ⟨dx, ts ++ [t], ?_, ?_, ?_⟩ k4
            · rw [upd_ne (ne_of_none upd_same ht'), upd_same]; rfl
            · rw [upd_ne (ne_of_none (by rw [upd_ne npr.symm, upd_same]) ht'), upd_ne npr.symm, upd_same, List.map_append]; rfl
            · rw [List.map_append]
              refine Tups.snoc (h3.keep k4.tups) ?_
              have e3 : (upd (upd (upd H t (.tup [.int 1, vn e, vn v])) r (.lst (ts.map V.ref ++ [.ref t]))) p (.ins CL dx (lf r e q))) t = some (.tup [.int 1, vn e, vn v]) := by
                rw [upd_ne ntp.symm, upd_ne ntr.symm, upd_same]
              exact (by rw [upd_ne (ne_of_none e3 ht')]; exact e3)
end
end Sw

namespace Sw
open PySem PySem.Spec PyProof.Rows L2
theorem dne_iff {a b : Nat} : (!decide (vn a = vn b)) = true ↔ a ≠ b := by
  rw [Bool.not_eq_true', decide_eq_false_iff_not]
  exact not_congr vn_inj
/-! ### a transaction -/
def tf (n st : Nat) (hs lk : Addr) (pl to : Nat) : List (Str × V) := [("number", vn n), ("state", vn st), ("has_log", .ref hs), ("lacks_marker", .ref lk), ("place", vn pl), ("total", vn to)]
theorem tf_number (n st : Nat) (hs lk : Addr) (pl to : Nat) : (tf n st hs lk pl to).lookup ("number" : Str) = some (vn n) := by rfl
theorem tf_state (n st : Nat) (hs lk : Addr) (pl to : Nat) : (tf n st hs lk pl to).lookup ("state" : Str) = some (vn st) := by rfl
theorem tf_has_log (n st : Nat) (hs lk : Addr) (pl to : Nat) : (tf n st hs lk pl to).lookup ("has_log" : Str) = some (.ref hs) := by rfl
theorem tf_lacks (n st : Nat) (hs lk : Addr) (pl to : Nat) : (tf n st hs lk pl to).lookup ("lacks_marker" : Str) = some (.ref lk) := by rfl
theorem tf_place (n st : Nat) (hs lk : Addr) (pl to : Nat) : (tf n st hs lk pl to).lookup ("place" : Str) = some (vn pl) := by rfl
theorem tf_total (n st : Nat) (hs lk : Addr) (pl to : Nat) : (tf n st hs lk pl to).lookup ("total" : Str) = some (vn to) := by rfl
theorem tf_settle (n st : Nat) (hs lk : Addr) (pl to : Nat) : (tf n st hs lk pl to).lookup ("settle" : Str) = none := by rfl
structure TxAt (C : Addr) (H : Hp) (t hs lk : Addr) (x : Hs08.Tx) : Prop where
  ne : hs ≠ lk
  ex : ∃ dx, H t = some (.ins C dx (tf x.n x.state hs lk x.pos x.sum))
  h : H hs = some (.lst [.bl x.log0, .bl x.log1])
  l : H lk = some (.lst [.bl x.left0, .bl x.left1])
theorem TxAt.keep {C t hs lk : Addr} {H H' : Hp} {x : Hs08.Tx} {S : List Addr} (L : TxAt C H t hs lk x) (k : Kp S H H') (h1 : t ∉ S) (h2 : hs ∉ S) (h3 : lk ∉ S) : TxAt C H' t hs lk x := by
  obtain ⟨dx, a⟩ := L.ex
  exact ⟨L.ne, ⟨dx, k.keep _ _ a h1⟩, k.keep _ _ L.h h2, k.keep _ _ L.l h3⟩
theorem TxAt.nh {C t hs lk : Addr} {H : Hp} {x : Hs08.Tx} (L : TxAt C H t hs lk x) : t ≠ hs := by
  obtain ⟨dx, a⟩ := L.ex
  exact ne_of a L.h (by intro z; cases z)
theorem TxAt.nl {C t hs lk : Addr} {H : Hp} {x : Hs08.Tx} (L : TxAt C H t hs lk x) : t ≠ lk := by
  obtain ⟨dx, a⟩ := L.ex
  exact ne_of a L.l (by intro z; cases z)
def spTxInit (C : Addr) : Sp := fun vs H Q _ => ∃ (p dx : Addr) (n : Nat), vs = [.ref p, vn n] ∧ H p = some (.ins C dx []) ∧ ∀ (H' : Hp) (hs lk : Addr), H hs = none → H lk = none → TxAt C H' p hs lk ⟨n, false, false, 0, false, false, 0, 0⟩ → Kp [p] H H' → Q .non H'
def spSettle (C : Addr) : Sp := fun vs H Q _ => ∃ (t hs lk : Addr) (x : Hs08.Tx) (n : Nat), vs = [.ref t, vn n] ∧ TxAt C H t hs lk x ∧ ∀ (H' : Hp) (lk' : Addr), H lk' = none → TxAt C H' t hs lk' { x with state := n, left0 := x.log0, left1 := x.log1 } → Kp [t] H H' → Q .non H'
section
variable {P : Program} {w : World} {K : PySem.W.Frag} {mg : Str → Option Value} {base : Heap} {CT CK CL CW CJ : Addr}
theorem ok_Tx_init (T : Txt K mg CT CK CL CW CJ) : IOk P w K mg base CT 1 ["self", "number"] (spTxInit CT) := by
  obtain ⟨f, fd, M, F, B⟩ := T.m_Transaction_init.ex
  refine ⟨f, fd, ⟨T.Transaction.makes, M.at_, M.fn, T.Transaction.kp⟩, B, F.ok c_Transaction_init (fun vs H Q E h => ?_) (fun cdv A outer s H vs Q E hr h => ?_)⟩
  · obtain ⟨p, dx, n, rfl, _⟩ := h
    rfl
  · obtain ⟨p, dx, n, rfl, hp, k⟩ := h
    refine ⟨_, pss_cons (ps_fld (pv 0) (pv 1) rfl) (pss_cons (ps_fld (pv 0) (pe_num rfl T.k_IS_OPEN) rfl) (pss_cons (ps_fld (pv 0) (pe_lst (pa_cons pe_bl (pa_cons pe_bl pa_nil))) rfl)
      (pss_cons (ps_fld (pv 0) (pe_lst (pa_cons pe_bl (pa_cons pe_bl pa_nil))) rfl) (pss_cons (ps_fld (pv 0) pe_int rfl) (pss_one (ps_fld (pv 0) pe_int rfl)))))), ?_⟩
    refine ⟨_, rfl, _, rfl, p, CT, dx, [], rfl, hp, T.Transaction.cl, T.n_Transaction_number, by decide, ?_⟩
    refine ⟨_, rfl, p, CT, dx, _, rfl, upd_same, T.Transaction.cl, T.n_Transaction_state, by show 1 < 1000; decide, ?_⟩
    rw [upd_upd]
    refine ⟨by show 2 ≤ sizeLine; decide, fun hs h1 => ?_⟩
    have n1 : p ≠ hs := ne_of_none upd_same h1
    refine ⟨_, rfl, p, CT, dx, _, rfl, by rw [upd_ne n1, upd_same], T.Transaction.cl, T.n_Transaction_has_log, by show 2 < 1000; decide, ?_⟩
    refine ⟨by show 2 ≤ sizeLine; decide, fun lk h2 => ?_⟩
    have n2 : p ≠ lk := ne_of_none upd_same h2
    have e2 : hs ≠ lk := ne_of_none (by rw [upd_ne n1.symm, upd_same]) h2
    refine ⟨_, rfl, p, CT, dx, _, rfl, by rw [upd_ne n2, upd_same], T.Transaction.cl, T.n_Transaction_lacks_marker, by show 3 < 1000; decide, ?_⟩
    refine ⟨_, rfl, p, CT, dx, _, rfl, upd_same, T.Transaction.cl, T.n_Transaction_place, by show 4 < 1000; decide, ?_⟩
    refine ⟨_, rfl, p, CT, dx, _, rfl, upd_same, T.Transaction.cl, T.n_Transaction_total, by show 5 < 1000; decide, ?_⟩
    rw [upd_upd, upd_upd]
    have f1 : H hs = none := by rw [← h1, upd_ne n1.symm]
    have f2 : H lk = none := by rw [← h2, upd_ne n2.symm, upd_ne e2.symm, upd_ne n2.symm]
    refine k _ hs lk f1 f2 ⟨e2, ⟨dx, upd_same⟩, ?_, ?_⟩ ⟨fun b o hb nb => ?_, fun b xs hb => ?_⟩
    · rw [upd_ne n1.symm, upd_ne e2, upd_ne n1.symm, upd_same]
    · rw [upd_ne n2.symm, upd_same]
    · have nb' : b ≠ p := by simpa using nb
      rw [upd_ne nb', upd_ne (ne_of_none hb f2), upd_ne nb', upd_ne (ne_of_none hb f1), upd_ne nb']
      exact hb
    · have nb' : b ≠ p := ne_of hb hp (by intro z; cases z)
      rw [upd_ne nb', upd_ne (ne_of_none hb f2), upd_ne nb', upd_ne (ne_of_none hb f1), upd_ne nb']
      exact hb
theorem ok_settle (T : Txt K mg CT CK CL CW CJ) : MOk P w K mg base CT "settle" 1 ["self", "state"] (spSettle CT) := by
  obtain ⟨f, fd, M, F, B⟩ := T.m_Transaction_settle.ex
  refine ⟨f, fd, M, B, F.ok c_Transaction_settle (fun vs H Q E h => ?_) (fun cdv A outer s H vs Q E hr h => ?_)⟩
  · obtain ⟨t, hs, lk, x, n, rfl, _⟩ := h
    rfl
  · obtain ⟨t, hs, lk, x, n, rfl, L, k⟩ := h
    have nh := L.nh
    have nl := L.nl
    obtain ⟨dx, h1⟩ := L.ex
    refine ⟨_, pss_cons (ps_fld (pv 0) (pv 1) rfl) (pss_one (ps_fld (pv 0) (pe_callTy call_list_of (by rfl) T.b_list (by decide +kernel) (pa_cons (pe_fld (pv 0) rfl) pa_nil)) rfl)), ?_⟩
    refine ⟨_, rfl, _, rfl, t, CT, dx, _, rfl, h1, T.Transaction.cl, T.n_Transaction_state, by show 6 < 1000; decide, ?_⟩
    refine ⟨_, rfl, t, CT, dx, _, _, rfl, upd_same, T.Transaction.cl, T.n_Transaction_has_log, rfl, hs, _, rfl, .inl (SqL.of (by rw [upd_ne nh.symm]; exact L.h)), fun lk' hn => ?_⟩
    have nt : t ≠ lk' := ne_of_none upd_same hn
    have hn' : H lk' = none := by rw [← hn, upd_ne nt.symm]
    refine ⟨_, rfl, t, CT, dx, _, rfl, by rw [upd_ne nt, upd_same], T.Transaction.cl, T.n_Transaction_lacks_marker, by show 6 < 1000; decide, ?_⟩
    have nhl : hs ≠ lk' := ne_of_none L.h hn'
    refine k _ lk' hn' ⟨nhl, ⟨dx, upd_same⟩, ?_, ?_⟩ ⟨fun b o hb nb => ?_, fun b xs hb => ?_⟩
    · rw [upd_ne nh.symm, upd_ne nhl, upd_ne nh.symm]; exact L.h
    · rw [upd_ne nt.symm, upd_same]
    · have nb' : b ≠ t := by simpa using nb
      rw [upd_ne nb', upd_ne (ne_of_none hb hn'), upd_ne nb']
      exact hb
    · have nb' : b ≠ t := ne_of hb h1 (by intro z; cases z)
      rw [upd_ne nb', upd_ne (ne_of_none hb hn'), upd_ne nb']
      exact hb
end
end Sw

namespace Sw
open PySem PySem.Spec PyProof.Rows L2
/-! ### the keeper -/
def kf (e le pl to : Nat) (v : V) : List (Str × V) := [("epoch", vn e), ("last_ended", vn le), ("place", vn pl), ("total", vn to), ("transaction", v)]
theorem kf_epoch (e le pl to : Nat) (v : V) : (kf e le pl to v).lookup ("epoch" : Str) = some (vn e) := by rfl
theorem kf_ended (e le pl to : Nat) (v : V) : (kf e le pl to v).lookup ("last_ended" : Str) = some (vn le) := by rfl
theorem kf_place (e le pl to : Nat) (v : V) : (kf e le pl to v).lookup ("place" : Str) = some (vn pl) := by rfl
theorem kf_total (e le pl to : Nat) (v : V) : (kf e le pl to v).lookup ("total" : Str) = some (vn to) := by rfl
theorem kf_tx (e le pl to : Nat) (v : V) : (kf e le pl to v).lookup ("transaction" : Str) = some v := by rfl
theorem kf_undo (e le pl to : Nat) (v : V) : (kf e le pl to v).lookup ("undo" : Str) = none := by rfl
theorem kf_is_past (e le pl to : Nat) (v : V) : (kf e le pl to v).lookup ("is_past" : Str) = none := by rfl
theorem kf_has_open (e le pl to : Nat) (v : V) : (kf e le pl to v).lookup ("has_open" : Str) = none := by rfl
theorem kf_ne_tf {C D dx dy : Addr} {e le pl to : Nat} {v : V} {n st : Nat} {hs lk : Addr} {a b : Nat} : HO.ins C dx (kf e le pl to v) ≠ HO.ins D dy (tf n st hs lk a b) := by
  intro z
  injection z with _ _ z
  have z2 : (kf e le pl to v).length = (tf n st hs lk a b).length := by rw [z]
  exact absurd z2 (by show ¬ (5 = 6); decide)
def TxO (C : Addr) (H : Hp) (v : V) (fp : List Addr) : Option Hs08.Tx → Prop
  | none => v = .non ∧ fp = []
  | some x => ∃ t hs lk, v = .ref t ∧ fp = [t, hs, lk] ∧ TxAt C H t hs lk x
theorem TxO.keep {C : Addr} {H H' : Hp} {v : V} {fp : List Addr} {S : List Addr} : ∀ {o : Option Hs08.Tx}, TxO C H v fp o → Kp S H H' → (∀ b ∈ fp, b ∉ S) → TxO C H' v fp o
  | none, h, _, _ => h
  | some x, ⟨t, hs, lk, e1, e2, L⟩, k, d => ⟨t, hs, lk, e1, e2, L.keep k (d _ (by rw [e2]; simp)) (d _ (by rw [e2]; simp)) (d _ (by rw [e2]; simp))⟩
structure KeepAt (CK CT : Addr) (H : Hp) (p : Addr) (fp : List Addr) (s : Hs08.St) : Prop where
  ex : ∃ dx v, H p = some (.ins CK dx (kf s.epoch s.ended s.pos s.sum v)) ∧ TxO CT H v fp s.tx
theorem KeepAt.keep {CK CT p : Addr} {H H' : Hp} {fp S : List Addr} {s : Hs08.St} (L : KeepAt CK CT H p fp s) (k : Kp S H H') (h1 : p ∉ S) (d : ∀ b ∈ fp, b ∉ S) : KeepAt CK CT H' p fp s := by
  obtain ⟨dx, v, a, b⟩ := L.ex
  exact ⟨dx, v, k.keep _ _ a h1, b.keep k d⟩
/-- what a keeper's method leaves -/
structure KeepTo (CK CT : Addr) (H H' : Hp) (p : Addr) (fp fp' : List Addr) (s' : Hs08.St) : Prop where
  at_ : KeepAt CK CT H' p fp' s'
  new : ∀ b ∈ fp', b ∈ fp ∨ H b = none
  kp : Kp (p :: fp) H H'
theorem KeepTo.more {CK CT : Addr} {H H' H2 : Hp} {p : Addr} {fp fp' : List Addr} {s' : Hs08.St} (a : KeepTo CK CT H H' p fp fp' s') (k : Kp [] H' H2) : KeepTo CK CT H H2 p fp fp' s' :=
  ⟨a.at_.keep k (by simp) (by simp), a.new, a.kp.trans (k.mono (by simp))⟩
theorem KeepTo.refl {CK CT : Addr} {H : Hp} {p : Addr} {fp : List Addr} {s : Hs08.St} (a : KeepAt CK CT H p fp s) : KeepTo CK CT H H p fp fp s := ⟨a, fun b h => .inl h, Kp.refl _ _⟩
def spKeepInit (CK CT : Addr) : Sp := fun vs H Q _ => ∃ (p dx : Addr), vs = [.ref p] ∧ H p = some (.ins CK dx []) ∧ ∀ (H' : Hp), (∀ s : Hs08.St, s.epoch = 0 → s.ended = 0 → s.pos = 0 → s.sum = 0 → s.tx = none → KeepAt CK CT H' p [] s) → Kp [p] H H' → Q .non H'
def spServeBegin (CK CT : Addr) : Sp := fun vs H Q _ => ∃ (p : Addr) (fp : List Addr) (s : Hs08.St), vs = [.ref p] ∧ KeepAt CK CT H p fp s ∧
  ∀ (H' : Hp) (t : Addr) (fp' : List Addr), H' t = some (.tup (ansT true (Hs08.serves s .begin_).2)) → KeepTo CK CT H H' p fp fp' (Hs08.serves s .begin_).1 → Q (.ref t) H'
def spUndo (CK CT : Addr) : Sp := fun vs H Q _ => ∃ (p : Addr) (fp : List Addr) (s : Hs08.St) (x : Hs08.Tx), vs = [.ref p] ∧ KeepAt CK CT H p fp s ∧ s.tx = some x ∧
  ∀ (H' : Hp) (fp' : List Addr), KeepTo CK CT H H' p fp fp' (Hs08.undone s x) → Q .non H'
def spServeLog (CK CT : Addr) : Sp := fun vs H Q _ => ∃ (p : Addr) (fp : List Addr) (s : Hs08.St) (e n j : Nat), vs = [.ref p, vn e, vn n, vn j] ∧ KeepAt CK CT H p fp s ∧ j < 2 ∧
  ∀ (H' : Hp) (t : Addr) (fp' : List Addr), H' t = some (.tup (ansT false (Hs08.serves s (.log e n j)).2)) → KeepTo CK CT H H' p fp fp' (Hs08.serves s (.log e n j)).1 → Q (.ref t) H'
def past (s : Hs08.St) (n : Nat) : Bool := match s.tx with
  | none => decide (n ≤ s.ended)
  | some t => if t.n = n then !decide (t.state = 0) else decide (n < t.n)
def spIsPast (CK CT : Addr) : Sp := fun vs H Q _ => ∃ (p : Addr) (fp : List Addr) (s : Hs08.St) (n : Nat), vs = [.ref p, vn n] ∧ KeepAt CK CT H p fp s ∧ Q (.bl (past s n)) H
def hasOpen (s : Hs08.St) : Bool := match s.tx with
  | none => false
  | some t => decide (t.state = 0)
def spHasOpen (CK CT : Addr) : Sp := fun vs H Q _ => ∃ (p : Addr) (fp : List Addr) (s : Hs08.St), vs = [.ref p] ∧ KeepAt CK CT H p fp s ∧ Q (.bl (hasOpen s)) H
def spServeEnd (CK CT : Addr) : Sp := fun vs H Q _ => ∃ (p : Addr) (fp : List Addr) (s : Hs08.St) (e n pl to : Nat), vs = [.ref p, vn e, vn n, vn pl, vn to] ∧ KeepAt CK CT H p fp s ∧
  ∀ (H' : Hp) (t : Addr) (fp' : List Addr), H' t = some (.tup (ansT false (Hs08.serves s (.commit e n pl to)).2)) → KeepTo CK CT H H' p fp fp' (Hs08.serves s (.commit e n pl to)).1 → Q (.ref t) H'
section
variable {P : Program} {w : World} {K : PySem.W.Frag} {mg : Str → Option Value} {base : Heap} {CT CK CL CW CJ : Addr}
theorem ok_Keeper_init (T : Txt K mg CT CK CL CW CJ) : IOk P w K mg base CK 1 ["self"] (spKeepInit CK CT) := by
  obtain ⟨f, fd, M, F, B⟩ := T.m_Keeper_init.ex
  refine ⟨f, fd, ⟨T.Keeper.makes, M.at_, M.fn, T.Keeper.kp⟩, B, F.ok c_Keeper_init (fun vs H Q E h => ?_) (fun cdv A outer s H vs Q E hr h => ?_)⟩
  · obtain ⟨p, dx, rfl, _⟩ := h
    rfl
  · obtain ⟨p, dx, rfl, hp, k⟩ := h
    refine ⟨_, pss_cons (ps_fld (pv 0) pe_int rfl) (pss_cons (ps_fld (pv 0) pe_int rfl) (pss_cons (ps_fld (pv 0) pe_int rfl) (pss_cons (ps_fld (pv 0) pe_int rfl) (pss_one (ps_fld (pv 0) pe_non rfl))))), ?_⟩
    refine ⟨_, rfl, p, CK, dx, [], rfl, hp, T.Keeper.cl, T.n_Keeper_epoch, by decide, ?_⟩
    refine ⟨_, rfl, p, CK, dx, _, rfl, upd_same, T.Keeper.cl, T.n_Keeper_last_ended, by show 1 < 1000; decide, ?_⟩
    refine ⟨_, rfl, p, CK, dx, _, rfl, upd_same, T.Keeper.cl, T.n_Keeper_place, by show 2 < 1000; decide, ?_⟩
    refine ⟨_, rfl, p, CK, dx, _, rfl, upd_same, T.Keeper.cl, T.n_Keeper_total, by show 3 < 1000; decide, ?_⟩
    refine ⟨_, rfl, p, CK, dx, _, rfl, upd_same, T.Keeper.cl, T.n_Keeper_transaction, by show 4 < 1000; decide, ?_⟩
    rw [upd_upd, upd_upd, upd_upd, upd_upd]
    refine k _ (fun s e1 e2 e3 e4 e5 => ⟨dx, .non, ?_, ?_⟩) (Kp.upd (by simp) hp (by intro xs z; cases z))
    · rw [e1, e2, e3, e4]; exact upd_same
    · rw [e5]; exact ⟨rfl, rfl⟩
theorem ok_undo (T : Txt K mg CT CK CL CW CJ) : MOk P w K mg base CK "undo" 2 ["self"] (spUndo CK CT) := by
  obtain ⟨f, fd, M, F, B⟩ := T.m_Keeper_undo.ex
  obtain ⟨f1, fd1, M1, B1, G1⟩ := ok_settle (P := P) (w := w) (base := base) T
  refine ⟨f, fd, M, B, F.ok c_Keeper_undo (fun vs H Q E h => ?_) (fun cdv A outer s H vs Q E hr h => ?_)⟩
  · obtain ⟨p, fp, s, x, rfl, _⟩ := h
    rfl
  · obtain ⟨p, fp, s, x, rfl, L, hx, k⟩ := h
    obtain ⟨dx, v, h1, h2⟩ := L.ex
    rw [hx] at h2
    obtain ⟨t, hs, lk, rfl, rfl, X⟩ := h2
    obtain ⟨dt, ht⟩ := X.ex
    have npt : p ≠ t := ne_of h1 ht kf_ne_tf
    have nph : p ≠ hs := ne_of h1 X.h (by intro z; cases z)
    have npl : p ≠ lk := ne_of h1 X.l (by intro z; cases z)
    refine ⟨_, pss_cons (ps_fldaug (pv 0) pe_int in_add) (pss_one (ps_expr (pe_meth (pe_fld (pv 0) rfl) T.Transaction.cl M1 G1 hr B1 .nil pass0 (pa_cons (pe_num rfl T.k_TO_GO) pa_nil)))), ?_⟩
    refine ⟨_, rfl, p, CK, dx, _, _, rfl, h1, T.Keeper.cl, T.n_Keeper_epoch, kf_epoch _ _ _ _ _, _, _, rfl, rfl, dx, _, h1, by show 5 < 1000; decide, ?_⟩
    have e1 : putF "epoch" (V.int ((s.epoch : Int) + 1)) (kf s.epoch s.ended s.pos s.sum (.ref t)) = kf (s.epoch + 1) s.ended s.pos s.sum (.ref t) := rfl
    rw [e1]
    have k1 : Kp [p] H (upd H p (.ins CK dx (kf (s.epoch + 1) s.ended s.pos s.sum (.ref t)))) := Kp.upd (by simp) h1 (by intro xs z; cases z)
    have X1 := X.keep k1 (by simpa using npt.symm) (by simpa using nph.symm) (by simpa using npl.symm)
    refine ⟨_, rfl, p, CK, dx, _, _, rfl, upd_same, T.Keeper.cl, T.n_Keeper_transaction, kf_tx _ _ _ _ _, t, dt, _, rfl, by rw [upd_ne npt.symm]; exact ht, tf_settle _ _ _ _ _ _, ?_⟩
    refine ⟨t, hs, lk, x, 2, rfl, X1, fun H' lk' hl X2 k2 => ?_⟩
    have hl' : H lk' = none := by
      rw [← hl, upd_ne]
      intro z
      rw [z, upd_same] at hl
      cases hl
    refine k _ [t, hs, lk'] ⟨⟨dx, .ref t, k2.keep _ _ upd_same (by simpa using npt), t, hs, lk', rfl, rfl, X2⟩, ?_, ?_⟩
    · intro b hb
      simp only [List.mem_cons, List.not_mem_nil, or_false] at hb
      rcases hb with rfl | rfl | rfl
      · exact .inl (by simp)
      · exact .inl (by simp)
      · exact .inr hl'
    · exact (k1.mono (by simp)).trans (k2.mono (by simp))
end
end Sw

namespace Sw
open PySem PySem.Spec PyProof.Rows L2
section
variable {P : Program} {w : World} {K : PySem.W.Frag} {mg : Str → Option Value} {base : Heap} {CT CK CL CW CJ : Addr}
theorem ok_has_open (T : Txt K mg CT CK CL CW CJ) : MOk P w K mg base CK "has_open" 1 ["self"] (spHasOpen CK CT) := by
  obtain ⟨f, fd, M, F, B⟩ := T.m_Keeper_has_open.ex
  refine ⟨f, fd, M, B, F.ok c_Keeper_has_open (fun vs H Q E h => ?_) (fun cdv A outer s H vs Q E hr h => ?_)⟩
  · obtain ⟨p, fp, s, rfl, _⟩ := h
    rfl
  · obtain ⟨p, fp, s, rfl, L, k⟩ := h
    obtain ⟨dx, v, h1, h2⟩ := L.ex
    refine ⟨_, (pss_one (ps_ret (pe_and (pe_cmpR op_notN (pe_fld (pv 0) rfl) pe_non (nomark _)) (pe_one (pe_cmpR op_eq (pe_fld (pe_fld (pv 0) rfl) rfl) (pe_num rfl T.k_IS_OPEN) (nomark _)))))), ?_⟩
    refine ⟨_, rfl, p, CK, dx, _, _, rfl, h1, T.Keeper.cl, T.n_Keeper_transaction, kf_tx _ _ _ _ _, rfl, _, rfl, ?_⟩
    cases hx : s.tx with
    | none =>
      rw [hx] at h2
      obtain ⟨rfl, rfl⟩ := h2
      refine iteF ?_
      have e : hasOpen s = false := by unfold hasOpen; rw [hx]
      rw [e] at k
      exact k
    | some x =>
      rw [hx] at h2
      obtain ⟨t, hs, lk, rfl, rfl, X⟩ := h2
      obtain ⟨dt, ht⟩ := X.ex
      refine iteT ?_
      refine ⟨_, rfl, p, CK, dx, _, _, rfl, h1, T.Keeper.cl, T.n_Keeper_transaction, kf_tx _ _ _ _ _, t, CT, dt, _, _, rfl, ht, T.Transaction.cl, T.n_Transaction_state, tf_state _ _ _ _ _ _, rfl, ?_⟩
      have e : hasOpen s = decide (vn x.state = V.int 0) := by
        unfold hasOpen; rw [hx]; dsimp only
        exact decide_eq_decide.mpr (vn_inj (b := 0)).symm
      rw [e] at k
      exact k
theorem ok_serve_begin (T : Txt K mg CT CK CL CW CJ) : MOk P w K mg base CK "serve_begin" 3 ["self"] (spServeBegin CK CT) := by
  obtain ⟨f, fd, M, F, B⟩ := T.m_Keeper_serve_begin.ex
  obtain ⟨f1, fd1, M_undo, B_undo, G_undo⟩ := ok_undo (P := P) (w := w) (base := base) T
  obtain ⟨f2, fd2, M_has_open, B_has_open, G_has_open⟩ := ok_has_open (P := P) (w := w) (base := base) T
  refine ⟨f, fd, M, B, F.ok c_Keeper_serve_begin (fun vs H Q E h => ?_) (fun cdv A outer s H vs Q E hr h => ?_)⟩
  · obtain ⟨p, fp, s, rfl, _⟩ := h
    rfl
  · obtain ⟨p, fp, s, rfl, L, k⟩ := h
    obtain ⟨dx, v, h1, h2⟩ := L.ex
    refine ⟨_, (pss_cons (ps_if (pt_cmpR op_isN (pe_fld (pv 0) rfl) pe_non (nomark _)) (pss_cons (ps_fldaug (pv 0) pe_int in_add)
      (pss_cons (ps_fld (pv 0) pe_int rfl)
      (pss_one (ps_ret (pe_tup (pa_cons (pe_num rfl T.k_GRANTED) (pa_cons (pe_fld (pv 0) rfl) (pa_cons (pe_fld (pv 0) rfl) (pa_cons (pe_fld (pv 0) rfl) pa_nil))))))))) pss_nil)
      (pss_cons (ps_if (pt_val (pe_meth0 (pv 0) T.Keeper.cl M_has_open G_has_open (hr.mono (by decide)) B_has_open .nil pass0)) (pss_one (ps_expr (pe_meth0 (pv 0) T.Keeper.cl M_undo G_undo (hr.mono (by decide)) B_undo .nil pass0))) pss_nil)
      (pss_one (ps_ret (pe_tup (pa_cons (pe_num rfl T.k_WAIT) pa_nil)))))), ?_⟩
    refine ⟨_, rfl, p, CK, dx, _, _, rfl, h1, T.Keeper.cl, T.n_Keeper_transaction, kf_tx _ _ _ _ _, rfl, _, rfl, ?_⟩
    cases hx : s.tx with
    | none =>
      rw [hx] at h2
      obtain ⟨rfl, rfl⟩ := h2
      refine iteT ?_
      refine ⟨_, rfl, p, CK, dx, _, _, rfl, h1, T.Keeper.cl, T.n_Keeper_epoch, kf_epoch _ _ _ _ _, _, _, rfl, rfl, dx, _, h1, by show 5 < 1000; decide, ?_⟩
      refine ⟨_, rfl, p, CK, dx, _, rfl, upd_same, T.Keeper.cl, T.n_Keeper_last_ended, by show 5 < 1000; decide, ?_⟩
      rw [upd_upd]
      refine ⟨_, rfl, p, CK, dx, _, _, rfl, upd_same, T.Keeper.cl, T.n_Keeper_epoch, rfl, _, rfl, p, CK, dx, _, _, rfl, upd_same, T.Keeper.cl, T.n_Keeper_place, rfl, _, rfl, p, CK, dx, _, _, rfl, upd_same, T.Keeper.cl, T.n_Keeper_total, rfl, by show 4 ≤ sizeLine; decide, fun t ht => ?_⟩
      have es : Hs08.serves s .begin_ = ({ s with epoch := s.epoch + 1, ended := 0 }, .ok (s.epoch + 1) s.pos s.sum) := by
        unfold Hs08.serves; rw [hx]
      rw [es] at k
      refine k _ t [] upd_same ⟨⟨dx, .non, ?_, ?_⟩, by simp, ?_⟩
      · rw [upd_ne (ne_of_none upd_same ht), upd_same]; rfl
      · show TxO CT _ _ _ s.tx
        rw [hx]; exact ⟨rfl, rfl⟩
      · exact (Kp.upd (by simp) h1 (by intro xs z; cases z)).trans (Kp.new ht)
    | some x =>
      rw [hx] at h2
      obtain ⟨t, hs, lk, rfl, rfl, X⟩ := h2
      obtain ⟨dt, ht⟩ := X.ex
      refine iteF ?_
      have eo : hasOpen s = decide (x.state = 0) := by unfold hasOpen; rw [hx]
      refine ⟨_, rfl, p, dx, _, rfl, h1, kf_has_open _ _ _ _ _, p, _, s, rfl, L, _, rfl, ite2 (fun c => ?_) (fun c => ?_)⟩
      · have c' : x.state = 0 := of_decide_eq_true (eo ▸ c)
        have es : Hs08.serves s .begin_ = (Hs08.undone s x, .wait) := by
          unfold Hs08.serves; rw [hx]; dsimp only; rw [if_pos c']
        rw [es] at k
        refine ⟨_, rfl, p, dx, _, rfl, h1, kf_undo _ _ _ _ _, p, _, s, x, rfl, L, hx, fun H' fp' R => ?_⟩
        refine ⟨by show 1 ≤ sizeLine; decide, fun u hu => ?_⟩
        exact k _ u fp' upd_same (R.more (Kp.new hu))
      · have c' : ¬ x.state = 0 := fun z => c (by rw [eo]; exact decide_eq_true z)
        have es : Hs08.serves s .begin_ = (s, .wait) := by
          unfold Hs08.serves; rw [hx]; dsimp only; rw [if_neg c']
        rw [es] at k
        refine ⟨by show 1 ≤ sizeLine; decide, fun u hu => ?_⟩
        exact k _ u _ upd_same ((KeepTo.refl L).more (Kp.new hu))
theorem ok_is_past (T : Txt K mg CT CK CL CW CJ) : MOk P w K mg base CK "is_past" 1 ["self", "number"] (spIsPast CK CT) := by
  obtain ⟨f, fd, M, F, B⟩ := T.m_Keeper_is_past.ex
  refine ⟨f, fd, M, B, F.ok c_Keeper_is_past (fun vs H Q E h => ?_) (fun cdv A outer s H vs Q E hr h => ?_)⟩
  · obtain ⟨p, fp, s, n, rfl, _⟩ := h
    rfl
  · obtain ⟨p, fp, s, n, rfl, L, k⟩ := h
    obtain ⟨dx, v, h1, h2⟩ := L.ex
    refine ⟨_, pss_cons (ps_if (pt_cmpR op_isN (pe_fld (pv 0) rfl) pe_non (nomark _)) (pss_one (ps_ret (pe_cmpR op_le (pv 1) (pe_fld (pv 0) rfl) (nomark _)))) pss_nil)
      (pss_cons (ps_if (pt_cmpR op_eq (pe_fld (pe_fld (pv 0) rfl) rfl) (pv 1) (nomark _)) (pss_one (ps_ret (pe_cmpR op_ne (pe_fld (pe_fld (pv 0) rfl) rfl) (pe_num rfl T.k_IS_OPEN) (nomark _)))) pss_nil)
      (pss_one (ps_ret (pe_cmpR op_gt (pe_fld (pe_fld (pv 0) rfl) rfl) (pv 1) (nomark _))))), ?_⟩
    refine ⟨_, rfl, p, CK, dx, _, _, rfl, h1, T.Keeper.cl, T.n_Keeper_transaction, kf_tx _ _ _ _ _, rfl, _, rfl, ?_⟩
    cases hx : s.tx with
    | none =>
      rw [hx] at h2
      obtain ⟨rfl, rfl⟩ := h2
      refine iteT ?_
      refine ⟨_, rfl, _, rfl, p, CK, dx, _, _, rfl, h1, T.Keeper.cl, T.n_Keeper_last_ended, kf_ended _ _ _ _ _, _, _, rfl, rfl, ?_⟩
      have e : past s n = decide ((n : Int) ≤ (s.ended : Int)) := by
        unfold past; rw [hx]; simp
      rw [e] at k
      exact k
    | some x =>
      rw [hx] at h2
      obtain ⟨t, hs, lk, rfl, rfl, X⟩ := h2
      obtain ⟨dt, ht⟩ := X.ex
      refine iteF ?_
      refine ⟨_, rfl, p, CK, dx, _, _, rfl, h1, T.Keeper.cl, T.n_Keeper_transaction, kf_tx _ _ _ _ _, t, CT, dt, _, _, rfl, ht, T.Transaction.cl, T.n_Transaction_number, tf_number _ _ _ _ _ _, _, rfl, rfl, _, rfl, ite2 (fun c => ?_) (fun c => ?_)⟩
      · have c' : x.n = n := vn_inj.mp (of_decide_eq_true c)
        refine ⟨_, rfl, p, CK, dx, _, _, rfl, h1, T.Keeper.cl, T.n_Keeper_transaction, kf_tx _ _ _ _ _, t, CT, dt, _, _, rfl, ht, T.Transaction.cl, T.n_Transaction_state, tf_state _ _ _ _ _ _, rfl, ?_⟩
        have e : past s n = !decide (vn x.state = V.int 0) := by
          unfold past; rw [hx]; dsimp only; rw [if_pos c']
          exact congrArg (fun b => !b) (decide_eq_decide.mpr (vn_inj (b := 0)).symm)
        rw [e] at k
        exact k
      · have c' : ¬ x.n = n := fun z => c (decide_eq_true (vn_inj.mpr z))
        refine ⟨_, rfl, p, CK, dx, _, _, rfl, h1, T.Keeper.cl, T.n_Keeper_transaction, kf_tx _ _ _ _ _, t, CT, dt, _, _, rfl, ht, T.Transaction.cl, T.n_Transaction_number, tf_number _ _ _ _ _ _, _, rfl, _, _, rfl, rfl, ?_⟩
        have e : past s n = decide ((n : Int) < (x.n : Int)) := by
          unfold past; rw [hx]; dsimp only; rw [if_neg c']; simp
        rw [e] at k
        exact k
end
end Sw

namespace Sw
open PySem PySem.Spec PyProof.Rows L2
/-- a new instance and its __init__ leave all that was tracked as it was -/
theorem made {H H1 : Hp} {x dx C : Addr} (nx : H x = Option.none) (nd : H dx = Option.none) (k : Kp [x] (upd (upd H dx (.own x)) x (.ins C dx [])) H1) : Same H H1 := fun b o e =>
  k.keep b o (by rw [upd_ne (ne_of_none e nx), upd_ne (ne_of_none e nd)]; exact e) (by simpa using ne_of_none e nx)
theorem made_free {H : Hp} {x dx C b : Addr} (h : (upd (upd H dx (.own x)) x (.ins C dx [])) b = none) : H b = none := by
  by_cases h1 : b = x
  · rw [h1, upd_same] at h; cases h
  · rw [upd_ne h1] at h
    by_cases h2 : b = dx
    · rw [h2, upd_same] at h; cases h
    · rw [upd_ne h2] at h; exact h
/-- log j is had -/
theorem had (x : Hs08.Tx) {j : Nat} (h : j < 2) : ([V.bl x.log0, V.bl x.log1]).set j (.bl true) = [V.bl (Hs08.withLog x j).log0, V.bl (Hs08.withLog x j).log1] := by
  match j, h with
  | 0, _ => rfl
  | 1, _ => rfl
theorem withLog_same (x : Hs08.Tx) (j : Nat) : (Hs08.withLog x j).n = x.n ∧ (Hs08.withLog x j).state = x.state ∧ (Hs08.withLog x j).pos = x.pos ∧ (Hs08.withLog x j).sum = x.sum ∧ (Hs08.withLog x j).left0 = x.left0 ∧ (Hs08.withLog x j).left1 = x.left1 := by
  unfold Hs08.withLog
  split <;> exact ⟨rfl, rfl, rfl, rfl, rfl, rfl⟩
theorem TxAt.had {C t hs lk : Addr} {H : Hp} {x : Hs08.Tx} {j : Nat} (L : TxAt C H t hs lk x) (hj : j < 2) : TxAt C (upd H hs (.lst ([V.bl x.log0, V.bl x.log1].set j (.bl true)))) t hs lk (Hs08.withLog x j) := by
  obtain ⟨dx, h1⟩ := L.ex
  obtain ⟨e1, e2, e3, e4, e5, e6⟩ := withLog_same x j
  refine ⟨L.ne, ⟨dx, ?_⟩, ?_, ?_⟩
  · rw [upd_ne L.nh, e1, e2, e3, e4]; exact h1
  · rw [upd_same, Sw.had x hj]
  · rw [upd_ne L.ne.symm, e5, e6]; exact L.l
section
variable {P : Program} {w : World} {K : PySem.W.Frag} {mg : Str → Option Value} {base : Heap} {CT CK CL CW CJ : Addr}
theorem ok_serve_log (T : Txt K mg CT CK CL CW CJ) : MOk P w K mg base CK "serve_log" 3 ["self", "epoch", "number", "j"] (spServeLog CK CT) := by
  obtain ⟨f, fd, M, F, B⟩ := T.m_Keeper_serve_log.ex
  obtain ⟨f1, fd1, M1, B1, G1⟩ := ok_is_past (P := P) (w := w) (base := base) T
  obtain ⟨f2, fd2, M2, B2, G2⟩ := ok_Tx_init (P := P) (w := w) (base := base) T
  refine ⟨f, fd, M, B, F.ok c_Keeper_serve_log (fun vs H Q E h => ?_) (fun cdv A outer s H vs Q E hr h => ?_)⟩
  · obtain ⟨p, fp, s, e, n, j, rfl, _⟩ := h
    rfl
  · obtain ⟨p, fp, s, e, n, j, rfl, L, hj, k⟩ := h
    obtain ⟨dx, v, h1, h2⟩ := L.ex
    refine ⟨_, pss_cons (ps_if (pt_cmpR op_ne (pv 1) (pe_fld (pv 0) rfl) (nomark _)) (pss_one (ps_ret (pe_tup (pa_cons (pe_num rfl T.k_SHUT_OUT) pa_nil)))) pss_nil)
      (pss_cons (ps_if (pt_val (pe_meth (pv 0) T.Keeper.cl M1 G1 (hr.mono (by decide)) B1 .nil pass0 (pa_cons (pv 2) pa_nil))) (pss_one (ps_ret (pe_tup (pa_cons (pe_num rfl T.k_GRANTED) pa_nil)))) pss_nil)
      (pss_cons (ps_if (pt_cmpR op_isN (pe_fld (pv 0) rfl) pe_non (nomark _)) (pss_one (ps_fld (pv 0) (pe_make M2 G2 hr rfl T.Transaction.mgC B2 .nil pass0 (pa_cons (pv 2) pa_nil)) rfl)) pss_nil)
      (pss_cons (ps_if (pt_cmpR op_ne (pe_fld (pe_fld (pv 0) rfl) rfl) (pv 2) (nomark _)) (pss_one (ps_ret (pe_tup (pa_cons (pe_num rfl T.k_WAIT) pa_nil)))) pss_nil)
      (pss_cons (ps_asg pe_bl (pg_sub (pe_fld (pe_fld (pv 0) rfl) rfl) (pv 3) set_list))
      (pss_one (ps_ret (pe_tup (pa_cons (pe_num rfl T.k_GRANTED) pa_nil)))))))), ?_⟩
    refine ⟨_, rfl, _, rfl, p, CK, dx, _, _, rfl, h1, T.Keeper.cl, T.n_Keeper_epoch, kf_epoch _ _ _ _ _, rfl, _, rfl, ite2 (fun c => ?_) (fun c => ?_)⟩
    · have c' : e ≠ s.epoch := dne_iff.mp c
      have es : Hs08.serves s (.log e n j) = (s, .out) := by
        unfold Hs08.serves; dsimp only; rw [if_pos c']
      rw [es] at k
      refine ⟨by show 1 ≤ sizeLine; decide, fun u hu => ?_⟩
      exact k _ u _ upd_same ((KeepTo.refl L).more (Kp.new hu))
    · have c' : ¬ e ≠ s.epoch := fun z => c (dne_iff.mpr z)
      refine ⟨_, rfl, p, dx, _, rfl, h1, kf_is_past _ _ _ _ _, _, rfl, p, fp, s, n, rfl, L, _, rfl, ite2 (fun d => ?_) (fun d => ?_)⟩
      · have es : Hs08.serves s (.log e n j) = (s, .ok 0 0 0) := by
          unfold Hs08.serves; dsimp only; rw [if_neg c']
          unfold past at d
          cases hx : s.tx with
          | none =>
            rw [hx] at d
            dsimp only at d ⊢
            rw [if_pos (of_decide_eq_true d)]
          | some x =>
            rw [hx] at d
            dsimp only at d ⊢
            by_cases g : x.n = n
            · rw [if_pos g] at d
              rw [if_pos (Or.inr ⟨g.symm, by simpa using d⟩)]
            · rw [if_neg g] at d
              rw [if_pos (Or.inl (of_decide_eq_true d))]
        rw [es] at k
        refine ⟨by show 1 ≤ sizeLine; decide, fun u hu => ?_⟩
        exact k _ u _ upd_same ((KeepTo.refl L).more (Kp.new hu))
      · refine ⟨_, rfl, p, CK, dx, _, _, rfl, h1, T.Keeper.cl, T.n_Keeper_transaction, kf_tx _ _ _ _ _, rfl, _, rfl, ?_⟩
        cases hx : s.tx with
        | none =>
          rw [hx] at h2
          obtain ⟨rfl, rfl⟩ := h2
          have d' : ¬ n ≤ s.ended := by
            unfold past at d; rw [hx] at d; simpa using d
          have es : Hs08.serves s (.log e n j) = ({ s with tx := some (Hs08.withLog ⟨n, false, false, 0, false, false, 0, 0⟩ j) }, .ok 0 0 0) := by
            unfold Hs08.serves; dsimp only; rw [if_neg c', hx]; dsimp only; rw [if_neg d']
          rw [es] at k
          refine iteT ?_
          refine ⟨_, rfl, fun x dy nx ny nxy => ?_⟩
          refine ⟨x, dy, n, rfl, upd_same, fun H1 hs lk fh fl X k1 => ⟨rfl, ?_⟩⟩
          have s1 : Same H H1 := made nx ny k1
          have fh' := made_free fh
          have fl' := made_free fl
          have hp1 := s1 _ _ h1
          obtain ⟨dt, ht⟩ := X.ex
          have npt : p ≠ x := ne_of hp1 ht kf_ne_tf
          have nph : p ≠ hs := ne_of hp1 X.h (by intro z; cases z)
          have npl : p ≠ lk := ne_of hp1 X.l (by intro z; cases z)
          refine ⟨_, rfl, p, CK, dx, _, rfl, hp1, T.Keeper.cl, T.n_Keeper_transaction, by show 5 < 1000; decide, ?_⟩
          have k2 : Kp [p] H1 (upd H1 p (.ins CK dx (kf s.epoch s.ended s.pos s.sum (.ref x)))) := Kp.upd (by simp) hp1 (by intro xs z; cases z)
          have X2 := X.keep k2 (by simpa using npt.symm) (by simpa using nph.symm) (by simpa using npl.symm)
          refine ⟨_, rfl, p, CK, dx, _, _, rfl, upd_same, T.Keeper.cl, T.n_Keeper_transaction, rfl, x, CT, dt, _, _, rfl, k2.keep _ _ ht (by simpa using npt.symm), T.Transaction.cl, T.n_Transaction_number, tf_number _ _ _ _ _ _, _, rfl, rfl, _, rfl, ite2 (fun g => ?_) (fun g => ?_)⟩
          · exact absurd rfl (dne_iff.mp g)
          · refine ⟨_, rfl, p, CK, dx, _, _, rfl, upd_same, T.Keeper.cl, T.n_Keeper_transaction, rfl, x, CT, dt, _, _, rfl, k2.keep _ _ ht (by simpa using npt.symm), T.Transaction.cl, T.n_Transaction_has_log, tf_has_log _ _ _ _ _ _, _, rfl, hs, _, _, j, rfl, rfl, X2.h, ?_, ?_⟩
            · unfold ixN
              rw [if_pos (by omega), if_pos (by show (j : Int) < 2; omega)]; simp
            · refine ⟨by show 1 ≤ sizeLine; decide, fun u hu => ?_⟩
              have X3 := X2.had hj
              refine k _ u [x, hs, lk] upd_same ⟨⟨dx, .ref x, ?_, x, hs, lk, rfl, rfl, X3.keep (S := []) (Kp.new hu) (by simp) (by simp) (by simp)⟩, ?_, ?_⟩
              · rw [upd_ne (ne_of_none (by rw [upd_ne nph, upd_same]) hu), upd_ne nph, upd_same]; rfl
              · intro b hb
                simp only [List.mem_cons, List.not_mem_nil, or_false] at hb
                rcases hb with rfl | rfl | rfl
                · exact .inr nx
                · exact .inr fh'
                · exact .inr fl'
              · refine ⟨fun b o hb nb => ?_, fun b xs hb => ?_⟩
                · have nbp : b ≠ p := by simpa using nb
                  have nbh : b ≠ hs := ne_of_none hb fh'
                  have e1 : upd (upd H1 p (.ins CK dx (kf s.epoch s.ended s.pos s.sum (.ref x)))) hs (.lst ([V.bl false, V.bl false].set j (.bl true))) b = some o := by
                    rw [upd_ne nbh, upd_ne nbp]; exact s1 _ _ hb
                  exact (by rw [upd_ne (ne_of_none e1 hu)]; exact e1)
                · have nbp : b ≠ p := ne_of hb h1 (by intro z; cases z)
                  have nbh : b ≠ hs := ne_of_none hb fh'
                  have e1 : upd (upd H1 p (.ins CK dx (kf s.epoch s.ended s.pos s.sum (.ref x)))) hs (.lst ([V.bl false, V.bl false].set j (.bl true))) b = some (.tup xs) := by
                    rw [upd_ne nbh, upd_ne nbp]; exact s1 _ _ hb
                  exact (by rw [upd_ne (ne_of_none e1 hu)]; exact e1)
        | some x =>
          rw [hx] at h2
          obtain ⟨t, hs, lk, rfl, rfl, X⟩ := h2
          obtain ⟨dt, ht⟩ := X.ex
          have npt : p ≠ t := ne_of h1 ht kf_ne_tf
          have nph : p ≠ hs := ne_of h1 X.h (by intro z; cases z)
          have npl : p ≠ lk := ne_of h1 X.l (by intro z; cases z)
          have d0 : ¬ (n < x.n ∨ (n = x.n ∧ x.state ≠ 0)) := by
            unfold past at d; rw [hx] at d; dsimp only at d
            by_cases g : x.n = n
            · rw [if_pos g] at d
              have d1 : x.state = 0 := by simpa using d
              rintro (z | ⟨_, z⟩)
              · omega
              · exact z d1
            · rw [if_neg g] at d
              have d1 : ¬ n < x.n := by simpa using d
              rintro (z | ⟨z, _⟩)
              · exact d1 z
              · exact g z.symm
          have es0 : Hs08.serves s (.log e n j) = if n = x.n then ({ s with tx := some (Hs08.withLog x j) }, .ok 0 0 0) else (s, .wait) := by
            unfold Hs08.serves; dsimp only; rw [if_neg c', hx]; dsimp only; rw [if_neg d0]
          refine iteF ?_
          refine ⟨_, rfl, p, CK, dx, _, _, rfl, h1, T.Keeper.cl, T.n_Keeper_transaction, kf_tx _ _ _ _ _, t, CT, dt, _, _, rfl, ht, T.Transaction.cl, T.n_Transaction_number, tf_number _ _ _ _ _ _, _, rfl, rfl, _, rfl, ite2 (fun g => ?_) (fun g => ?_)⟩
          · have g' : x.n ≠ n := dne_iff.mp g
            rw [es0, if_neg g'.symm] at k
            refine ⟨by show 1 ≤ sizeLine; decide, fun u hu => ?_⟩
            exact k _ u _ upd_same ((KeepTo.refl L).more (Kp.new hu))
          · have g' : x.n = n := Decidable.not_not.mp fun z => g (dne_iff.mpr z)
            rw [es0, if_pos g'.symm] at k
            refine ⟨_, rfl, p, CK, dx, _, _, rfl, h1, T.Keeper.cl, T.n_Keeper_transaction, kf_tx _ _ _ _ _, t, CT, dt, _, _, rfl, ht, T.Transaction.cl, T.n_Transaction_has_log, tf_has_log _ _ _ _ _ _, _, rfl, hs, _, _, j, rfl, rfl, X.h, ?_, ?_⟩
            · unfold ixN
              rw [if_pos (by omega), if_pos (by show (j : Int) < 2; omega)]; simp
            · refine ⟨by show 1 ≤ sizeLine; decide, fun u hu => ?_⟩
              have X3 := X.had hj
              have kk : Kp (p :: [t, hs, lk]) H (upd H hs (.lst ([V.bl x.log0, V.bl x.log1].set j (.bl true)))) := Kp.upd (by simp) X.h (by intro xs z; cases z)
              have R : KeepTo CK CT H (upd H hs (.lst ([V.bl x.log0, V.bl x.log1].set j (.bl true)))) p [t, hs, lk] [t, hs, lk] { s with tx := some (Hs08.withLog x j) } :=
                ⟨⟨dx, .ref t, by rw [upd_ne nph]; exact h1, t, hs, lk, rfl, rfl, X3⟩, fun b hb => .inl hb, kk⟩
              exact k _ u _ upd_same (R.more (Kp.new hu))
theorem ok_serve_end (T : Txt K mg CT CK CL CW CJ) : MOk P w K mg base CK "serve_end" 2 ["self", "epoch", "number", "place", "total"] (spServeEnd CK CT) := by
  obtain ⟨f, fd, M, F, B⟩ := T.m_Keeper_serve_end.ex
  obtain ⟨f1, fd1, M_has_open, B_has_open, G_has_open⟩ := ok_has_open (P := P) (w := w) (base := base) T
  obtain ⟨f2, fd2, M_settle, B_settle, G_settle⟩ := ok_settle (P := P) (w := w) (base := base) T
  refine ⟨f, fd, M, B, F.ok c_Keeper_serve_end (fun vs H Q E h => ?_) (fun cdv A outer s H vs Q E hr h => ?_)⟩
  · obtain ⟨p, fp, s, e, n, pl, to, rfl, _⟩ := h
    rfl
  · obtain ⟨p, fp, s, e, n, pl, to, rfl, L, k⟩ := h
    obtain ⟨dx, v, h1, h2⟩ := L.ex
    refine ⟨_, (pss_cons (ps_if (pt_cmpR op_ne (pv 1) (pe_fld (pv 0) rfl) (nomark _)) (pss_one (ps_ret (pe_tup (pa_cons (pe_num rfl T.k_SHUT_OUT) pa_nil)))) pss_nil)
      (pss_cons (ps_if (PW.pt (pw_and (pt_val (pe_meth0 (pv 0) T.Keeper.cl M_has_open G_has_open (hr.mono (by decide)) B_has_open .nil pass0)) (pw_and1 (pt_cmpR op_eq (pe_fld (pe_fld (pv 0) rfl) rfl) (pv 2) (nomark _))))) (pss_cons (ps_expr (pe_meth (pe_fld (pv 0) rfl) T.Transaction.cl M_settle G_settle (hr.mono (by decide)) B_settle .nil pass0 (pa_cons (pe_num rfl T.k_TO_STAND) pa_nil)))
      (pss_cons (ps_fld (pe_fld (pv 0) rfl) (pv 3) rfl)
      (pss_one (ps_fld (pe_fld (pv 0) rfl) (pv 4) rfl)))) pss_nil)
      (pss_one (ps_ret (pe_tup (pa_cons (pe_num rfl T.k_GRANTED) pa_nil)))))), ?_⟩
    refine ⟨_, rfl, _, rfl, p, CK, dx, _, _, rfl, h1, T.Keeper.cl, T.n_Keeper_epoch, kf_epoch _ _ _ _ _, rfl, _, rfl, ite2 (fun c => ?_) (fun c => ?_)⟩
    · have c' : e ≠ s.epoch := dne_iff.mp c
      have es : Hs08.serves s (.commit e n pl to) = (s, .out) := by
        unfold Hs08.serves; dsimp only; rw [if_pos c']
      rw [es] at k
      refine ⟨by show 1 ≤ sizeLine; decide, fun u hu => ?_⟩
      exact k _ u _ upd_same ((KeepTo.refl L).more (Kp.new hu))
    · have c' : ¬ e ≠ s.epoch := fun z => c (dne_iff.mpr z)
      have same : Hs08.serves s (.commit e n pl to) = (s, .ok 0 0 0) → ∀ u, H u = none → Q (.ref u) (upd H u (.tup [.int 1])) := fun es u hu => by
        rw [es] at k
        exact k _ u _ upd_same ((KeepTo.refl L).more (Kp.new hu))
      refine ⟨_, rfl, p, dx, _, rfl, h1, kf_has_open _ _ _ _ _, p, fp, s, rfl, L, _, rfl, ite2 (fun d => ?_) (fun d => ?_)⟩
      · cases hx : s.tx with
        | none =>
          unfold hasOpen at d; rw [hx] at d; cases d
        | some x =>
          rw [hx] at h2
          obtain ⟨t, hs, lk, rfl, rfl, X⟩ := h2
          obtain ⟨dt, ht⟩ := X.ex
          have npt : p ≠ t := ne_of h1 ht kf_ne_tf
          have nph : p ≠ hs := ne_of h1 X.h (by intro z; cases z)
          have npl : p ≠ lk := ne_of h1 X.l (by intro z; cases z)
          have d1 : x.state = 0 := by
            unfold hasOpen at d; rw [hx] at d; exact of_decide_eq_true d
          refine ⟨_, rfl, p, CK, dx, _, _, rfl, h1, T.Keeper.cl, T.n_Keeper_transaction, kf_tx _ _ _ _ _, t, CT, dt, _, _, rfl, ht, T.Transaction.cl, T.n_Transaction_number, tf_number _ _ _ _ _ _, _, rfl, rfl, _, rfl, ite2 (fun g => ?_) (fun g => ?_)⟩
          rotate_left
          · have g' : ¬ n = x.n := fun z => g (decide_eq_true (vn_inj.mpr z.symm))
            refine ⟨by show 1 ≤ sizeLine; decide, same ?_⟩
            unfold Hs08.serves; dsimp only; rw [if_neg c', hx]; dsimp only; rw [if_neg fun z => g' z.1]
          have d' : n = x.n ∧ x.state = 0 := ⟨(vn_inj.mp (of_decide_eq_true g)).symm, d1⟩
          have es : Hs08.serves s (.commit e n pl to) = ({ s with tx := some { x with state := 1, left0 := x.log0, left1 := x.log1, pos := pl, sum := to } }, .ok 0 0 0) := by
            unfold Hs08.serves; dsimp only; rw [if_neg c', hx]; dsimp only; rw [if_pos d']
          rw [es] at k
          refine ⟨_, rfl, p, CK, dx, _, _, rfl, h1, T.Keeper.cl, T.n_Keeper_transaction, kf_tx _ _ _ _ _, t, dt, _, rfl, ht, tf_settle _ _ _ _ _ _, ?_⟩
          refine ⟨t, hs, lk, x, 1, rfl, X, fun H1 lk' fl X1 k1 => ?_⟩
          have hp1 := k1.keep _ _ h1 (by simpa using npt)
          obtain ⟨dt1, ht1⟩ := X1.ex
          have nth := X1.nh
          have ntl := X1.nl
          refine ⟨_, rfl, _, rfl, p, CK, dx, _, _, rfl, hp1, T.Keeper.cl, T.n_Keeper_transaction, kf_tx _ _ _ _ _, t, CT, dt1, _, rfl, ht1, T.Transaction.cl, T.n_Transaction_place, by show 6 < 1000; decide, ?_⟩
          refine ⟨_, rfl, _, rfl, p, CK, dx, _, _, rfl, by rw [upd_ne npt]; exact hp1, T.Keeper.cl, T.n_Keeper_transaction, kf_tx _ _ _ _ _, t, CT, dt1, _, rfl, upd_same, T.Transaction.cl, T.n_Transaction_total, by show 6 < 1000; decide, ?_⟩
          rw [upd_upd]
          refine ⟨by show 1 ≤ sizeLine; decide, fun u hu => ?_⟩
          have k2 : Kp (p :: [t, hs, lk]) H1 (upd H1 t (.ins CT dt1 (tf x.n 1 hs lk' pl to))) := Kp.upd (by simp) ht1 (by intro xs z; cases z)
          have R : KeepTo CK CT H (upd H1 t (.ins CT dt1 (tf x.n 1 hs lk' pl to))) p [t, hs, lk] [t, hs, lk'] { s with tx := some { x with state := 1, left0 := x.log0, left1 := x.log1, pos := pl, sum := to } } := by
            refine ⟨⟨dx, .ref t, by rw [upd_ne npt]; exact hp1, t, hs, lk', rfl, rfl, X1.ne, ⟨dt1, upd_same⟩, by rw [upd_ne nth.symm]; exact X1.h, by rw [upd_ne ntl.symm]; exact X1.l⟩, ?_, (k1.mono (by simp)).trans k2⟩
            intro b hb
            simp only [List.mem_cons, List.not_mem_nil, or_false] at hb
            rcases hb with rfl | rfl | rfl
            · exact .inl (by simp)
            · exact .inl (by simp)
            · exact .inr fl
          exact k _ u _ upd_same (R.more (Kp.new hu))
      · refine ⟨by show 1 ≤ sizeLine; decide, same ?_⟩
        unfold Hs08.serves; dsimp only; rw [if_neg c']
        cases hx : s.tx with
        | none => rfl
        | some x =>
          unfold hasOpen at d; rw [hx] at d; dsimp only at d ⊢
          rw [if_neg]
          rintro ⟨_, z2⟩
          exact d (decide_eq_true z2)
end
end Sw

namespace Sw
open PySem PySem.Spec PyProof.Rows L2
/-! ### a worker -/
def wf (u : Bool) (e pl to : Nat) (nn : Addr) (n : Nat) (gl : Addr) (gd : Nat) (en : Bool) : List (Str × V) :=
  [("up", .bl u), ("epoch", vn e), ("place", vn pl), ("total", vn to), ("next_numbers", .ref nn), ("number", vn n), ("granted_logs", .ref gl), ("granted_data", vn gd), ("ending", .bl en)]
section
variable (u : Bool) (e pl to : Nat) (nn : Addr) (n : Nat) (gl : Addr) (gd : Nat) (en : Bool)
theorem wf_up : (wf u e pl to nn n gl gd en).lookup ("up" : Str) = some (.bl u) := by rfl
theorem wf_epoch : (wf u e pl to nn n gl gd en).lookup ("epoch" : Str) = some (vn e) := by rfl
theorem wf_place : (wf u e pl to nn n gl gd en).lookup ("place" : Str) = some (vn pl) := by rfl
theorem wf_total : (wf u e pl to nn n gl gd en).lookup ("total" : Str) = some (vn to) := by rfl
theorem wf_next : (wf u e pl to nn n gl gd en).lookup ("next_numbers" : Str) = some (.ref nn) := by rfl
theorem wf_number : (wf u e pl to nn n gl gd en).lookup ("number" : Str) = some (vn n) := by rfl
theorem wf_glogs : (wf u e pl to nn n gl gd en).lookup ("granted_logs" : Str) = some (.ref gl) := by rfl
theorem wf_gdata : (wf u e pl to nn n gl gd en).lookup ("granted_data" : Str) = some (vn gd) := by rfl
theorem wf_ending : (wf u e pl to nn n gl gd en).lookup ("ending" : Str) = some (.bl en) := by rfl
theorem wf_no {m : Str} (h : m ∉ ([("up" : Str), "epoch", "place", "total", "next_numbers", "number", "granted_logs", "granted_data", "ending"] : List Str)) : (wf u e pl to nn n gl gd en).lookup m = none := by
  simp only [List.mem_cons, List.not_mem_nil, or_false, not_or] at h
  obtain ⟨h1, h2, h3, h4, h5, h6, h7, h8, h9⟩ := h
  unfold wf
  simp [List.lookup, beq_eq_false_iff_ne.mpr h1, beq_eq_false_iff_ne.mpr h2, beq_eq_false_iff_ne.mpr h3, beq_eq_false_iff_ne.mpr h4, beq_eq_false_iff_ne.mpr h5, beq_eq_false_iff_ne.mpr h6, beq_eq_false_iff_ne.mpr h7, beq_eq_false_iff_ne.mpr h8, beq_eq_false_iff_ne.mpr h9]
end
structure WkAt (C : Addr) (H : Hp) (p nn gl : Addr) (x : Hs08.Worker) : Prop where
  ne : nn ≠ gl
  e0 : x.epoch ≠ some 0
  ex : ∃ dx, H p = some (.ins C dx (wf x.up (x.epoch.getD 0) x.pos x.sum nn x.n gl x.wrote x.ending))
  nx : ∃ a b : Nat, H nn = some (.lst [vn a, vn b]) ∧ (x.epoch ≠ none → a = x.seq0 ∧ b = x.seq1)
  gr : H gl = some (.lst [.bl x.has0, .bl x.has1])
theorem WkAt.keep {C p nn gl : Addr} {H H' : Hp} {x : Hs08.Worker} {S : List Addr} (L : WkAt C H p nn gl x) (k : Kp S H H') (h1 : p ∉ S) (h2 : nn ∉ S) (h3 : gl ∉ S) : WkAt C H' p nn gl x := by
  obtain ⟨dx, a⟩ := L.ex
  obtain ⟨u, v, h, e⟩ := L.nx
  exact ⟨L.ne, L.e0, ⟨dx, k.keep _ _ a h1⟩, ⟨u, v, k.keep _ _ h h2, e⟩, k.keep _ _ L.gr h3⟩
theorem WkAt.pn {C p nn gl : Addr} {H : Hp} {x : Hs08.Worker} (L : WkAt C H p nn gl x) : p ≠ nn := by
  obtain ⟨dx, a⟩ := L.ex
  obtain ⟨u, v, h, e⟩ := L.nx
  exact ne_of a h (by intro z; cases z)
theorem WkAt.pg {C p nn gl : Addr} {H : Hp} {x : Hs08.Worker} (L : WkAt C H p nn gl x) : p ≠ gl := by
  obtain ⟨dx, a⟩ := L.ex
  exact ne_of a L.gr (by intro z; cases z)
/-- what a worker's method leaves -/
structure WkTo (C : Addr) (H H' : Hp) (p nn gl nn' gl' : Addr) (x' : Hs08.Worker) : Prop where
  at_ : WkAt C H' p nn' gl' x'
  nw : nn' = nn ∨ H nn' = none
  gw : gl' = gl ∨ H gl' = none
  kp : Kp [p, nn, gl] H H'
def turnF (n : Nat) (q : Addr) (fs : List (Str × V)) : List (Str × V) := putF "ending" (.bl false) (putF "granted_data" (.int 0) (putF "granted_logs" (.ref q) (putF "number" (vn n) fs)))
def goF (e pl to : Nat) (q1 q2 : Addr) (fs : List (Str × V)) : List (Str × V) := turnF 1 q2 (putF "next_numbers" (.ref q1) (putF "total" (vn to) (putF "place" (vn pl) (putF "epoch" (vn e) fs))))
def spTurn (C : Addr) : Sp := fun vs H Q _ => ∃ (p dx : Addr) (fs : List (Str × V)) (n : Nat), vs = [.ref p, vn n] ∧ H p = some (.ins C dx fs) ∧ fs.length ≤ 100 ∧
  ∀ (H' : Hp) (q : Addr), H q = none → H' q = some (.lst [.bl false, .bl false]) → H' p = some (.ins C dx (turnF n q fs)) → Kp [p] H H' → Q .non H'
def spGo (C : Addr) : Sp := fun vs H Q _ => ∃ (p dx : Addr) (fs : List (Str × V)) (e pl to : Nat), vs = [.ref p, vn e, vn pl, vn to] ∧ H p = some (.ins C dx fs) ∧ fs.length ≤ 90 ∧ fs.lookup ("turn_to" : Str) = none ∧
  ∀ (H' : Hp) (q1 q2 : Addr), H q1 = none → H q2 = none → q1 ≠ q2 → H' q1 = some (.lst [.int 1, .int 1]) → H' q2 = some (.lst [.bl false, .bl false]) → H' p = some (.ins C dx (goF e pl to q1 q2 fs)) → Kp [p] H H' → Q .non H'
def spForget (C : Addr) : Sp := fun vs H Q _ => ∃ (p dx : Addr) (fs : List (Str × V)), vs = [.ref p] ∧ H p = some (.ins C dx fs) ∧ fs.length ≤ 90 ∧ fs.lookup ("turn_to" : Str) = none ∧ fs.lookup ("go_on_from" : Str) = none ∧
  ∀ (H' : Hp) (q1 q2 : Addr), H q1 = none → H q2 = none → q1 ≠ q2 → H' q1 = some (.lst [.int 1, .int 1]) → H' q2 = some (.lst [.bl false, .bl false]) → H' p = some (.ins C dx (putF "number" (.int 0) (goF 0 0 0 q1 q2 fs))) → Kp [p] H H' → Q .non H'
def spWkInit (C : Addr) : Sp := fun vs H Q _ => ∃ (p dx : Addr) (u : Bool), vs = [.ref p, .bl u] ∧ H p = some (.ins C dx []) ∧
  ∀ (H' : Hp) (q1 q2 : Addr), H q1 = none → H q2 = none → WkAt C H' p q1 q2 { Hs08.down with up := u } → Kp [p] H H' → Q .non H'
theorem put_len {f : Str} {v : V} {fs : List (Str × V)} {n : Nat} (h : fs.length ≤ n) : (putF f v fs).length ≤ n + 1 := Nat.le_trans (length_putF f v fs) (by omega)
section
variable {P : Program} {w : World} {K : PySem.W.Frag} {mg : Str → Option Value} {base : Heap} {CT CK CL CW CJ : Addr}
theorem ok_turn_to (T : Txt K mg CT CK CL CW CJ) : MOk P w K mg base CW "turn_to" 1 ["self", "number"] (spTurn CW) := by
  obtain ⟨f, fd, M, F, B⟩ := T.m_Worker_turn_to.ex
  refine ⟨f, fd, M, B, F.ok c_Worker_turn_to (fun vs H Q E h => ?_) (fun cdv A outer s H vs Q E hr h => ?_)⟩
  · obtain ⟨p, dx, fs, n, rfl, _⟩ := h
    rfl
  · obtain ⟨p, dx, fs, n, rfl, hp, hl, k⟩ := h
    refine ⟨_, pss_cons (ps_fld (pv 0) (pv 1) rfl) (pss_cons (ps_fld (pv 0) (pe_lst (pa_cons pe_bl (pa_cons pe_bl pa_nil))) rfl) (pss_cons (ps_fld (pv 0) pe_int rfl) (pss_one (ps_fld (pv 0) pe_bl rfl)))), ?_⟩
    have l1 := put_len (f := "number") (v := vn n) hl
    refine ⟨_, rfl, _, rfl, p, CW, dx, _, rfl, hp, T.Worker.cl, T.n_Worker_number, by omega, ?_⟩
    refine ⟨by show 2 ≤ sizeLine; decide, fun q hq => ?_⟩
    have n1 : p ≠ q := ne_of_none upd_same hq
    have fq : H q = none := by rw [← hq, upd_ne n1.symm]
    have l2 := put_len (f := "granted_logs") (v := .ref q) l1
    have l3 := put_len (f := "granted_data") (v := .int 0) l2
    refine ⟨_, rfl, p, CW, dx, _, rfl, by rw [upd_ne n1, upd_same], T.Worker.cl, T.n_Worker_granted_logs, by omega, ?_⟩
    refine ⟨_, rfl, p, CW, dx, _, rfl, upd_same, T.Worker.cl, T.n_Worker_granted_data, by omega, ?_⟩
    refine ⟨_, rfl, p, CW, dx, _, rfl, upd_same, T.Worker.cl, T.n_Worker_ending, by omega, ?_⟩
    rw [upd_upd, upd_upd]
    refine k _ q fq (by rw [upd_ne n1.symm, upd_same]) upd_same ⟨fun b o hb nb => ?_, fun b xs hb => ?_⟩
    · have nb' : b ≠ p := by simpa using nb
      rw [upd_ne nb', upd_ne (ne_of_none hb fq), upd_ne nb']
      exact hb
    · have nb' : b ≠ p := ne_of hb hp (by intro z; cases z)
      rw [upd_ne nb', upd_ne (ne_of_none hb fq), upd_ne nb']
      exact hb
theorem lookup_put {f g : Str} {v : V} {fs : List (Str × V)} (h : fs.lookup g = none) (n : ¬ g = f) : (putF f v fs).lookup g = none := by
  rw [lookup_putF, if_neg n]; exact h
theorem ok_go_on_from (T : Txt K mg CT CK CL CW CJ) : MOk P w K mg base CW "go_on_from" 2 ["self", "epoch", "place", "total"] (spGo CW) := by
  obtain ⟨f, fd, M, F, B⟩ := T.m_Worker_go_on_from.ex
  obtain ⟨f1, fd1, M1, B1, G1⟩ := ok_turn_to (P := P) (w := w) (base := base) T
  refine ⟨f, fd, M, B, F.ok c_Worker_go_on_from (fun vs H Q E h => ?_) (fun cdv A outer s H vs Q E hr h => ?_)⟩
  · obtain ⟨p, dx, fs, e, pl, to, rfl, _⟩ := h
    rfl
  · obtain ⟨p, dx, fs, e, pl, to, rfl, hp, hl, no, k⟩ := h
    refine ⟨_, pss_cons (ps_fld (pv 0) (pv 1) rfl) (pss_cons (ps_fld (pv 0) (pv 2) rfl) (pss_cons (ps_fld (pv 0) (pv 3) rfl) (pss_cons (ps_fld (pv 0) (pe_lst (pa_cons pe_int (pa_cons pe_int pa_nil))) rfl)
      (pss_one (ps_expr (pe_meth (pv 0) T.Worker.cl M1 G1 hr B1 .nil pass0 (pa_cons pe_int pa_nil))))))), ?_⟩
    have l1 := put_len (f := "epoch") (v := vn e) hl
    have l2 := put_len (f := "place") (v := vn pl) l1
    have l3 := put_len (f := "total") (v := vn to) l2
    refine ⟨_, rfl, _, rfl, p, CW, dx, _, rfl, hp, T.Worker.cl, T.n_Worker_epoch, by omega, ?_⟩
    refine ⟨_, rfl, _, rfl, p, CW, dx, _, rfl, upd_same, T.Worker.cl, T.n_Worker_place, by omega, ?_⟩
    refine ⟨_, rfl, _, rfl, p, CW, dx, _, rfl, upd_same, T.Worker.cl, T.n_Worker_total, by omega, ?_⟩
    rw [upd_upd, upd_upd]
    refine ⟨by show 2 ≤ sizeLine; decide, fun q hq => ?_⟩
    have n1 : p ≠ q := ne_of_none upd_same hq
    have fq : H q = none := by rw [← hq, upd_ne n1.symm]
    have l4 := put_len (f := "next_numbers") (v := .ref q) l3
    refine ⟨_, rfl, p, CW, dx, _, rfl, by rw [upd_ne n1, upd_same], T.Worker.cl, T.n_Worker_next_numbers, by omega, ?_⟩
    have no4 := lookup_put (f := "next_numbers") (v := .ref q) (lookup_put (f := "total") (v := vn to) (lookup_put (f := "place") (v := vn pl) (lookup_put (f := "epoch") (v := vn e) no (by decide +kernel)) (by decide +kernel)) (by decide +kernel)) (by decide +kernel)
    refine ⟨_, rfl, p, dx, _, rfl, upd_same, no4, ?_⟩
    refine ⟨p, dx, _, 1, rfl, upd_same, by omega, fun H' q2 f2 hq2 hp2 k2 => ?_⟩
    have n2 : q2 ≠ p := by
      intro z; rw [z, upd_same] at f2; cases f2
    have n3 : q2 ≠ q := by
      intro z; rw [z, upd_ne n1.symm, upd_same] at f2; cases f2
    refine k _ q q2 fq (by rw [← f2, upd_ne n2, upd_ne n3, upd_ne n2]) n3.symm (k2.keep _ _ (by rw [upd_ne n1.symm, upd_same]) (by simpa using n1.symm)) hq2 hp2 ⟨fun b o hb nb => ?_, fun b xs hb => ?_⟩
    · have nb' : b ≠ p := by simpa using nb
      refine k2.keep _ _ ?_ nb
      rw [upd_ne nb', upd_ne (ne_of_none hb fq), upd_ne nb']
      exact hb
    · have nb' : b ≠ p := ne_of hb hp (by intro z; cases z)
      refine k2.tups _ _ ?_
      rw [upd_ne nb', upd_ne (ne_of_none hb fq), upd_ne nb']
      exact hb
theorem goF_len {e pl to : Nat} {q1 q2 : Addr} {fs : List (Str × V)} {n : Nat} (h : fs.length ≤ n) : (goF e pl to q1 q2 fs).length ≤ n + 8 :=
  put_len (put_len (put_len (put_len (put_len (put_len (put_len (put_len h)))))))
theorem ok_forget (T : Txt K mg CT CK CL CW CJ) : MOk P w K mg base CW "forget" 3 ["self"] (spForget CW) := by
  obtain ⟨f, fd, M, F, B⟩ := T.m_Worker_forget.ex
  obtain ⟨f1, fd1, M1, B1, G1⟩ := ok_go_on_from (P := P) (w := w) (base := base) T
  refine ⟨f, fd, M, B, F.ok c_Worker_forget (fun vs H Q E h => ?_) (fun cdv A outer s H vs Q E hr h => ?_)⟩
  · obtain ⟨p, dx, fs, rfl, _⟩ := h
    rfl
  · obtain ⟨p, dx, fs, rfl, hp, hl, no, no2, k⟩ := h
    refine ⟨_, pss_cons (ps_expr (pe_meth (pv 0) T.Worker.cl M1 G1 hr B1 .nil pass0 (pa_cons pe_int (pa_cons pe_int (pa_cons pe_int pa_nil))))) (pss_one (ps_fld (pv 0) pe_int rfl)), ?_⟩
    refine ⟨_, rfl, p, dx, _, rfl, hp, no2, ?_⟩
    refine ⟨p, dx, fs, 0, 0, 0, rfl, hp, hl, no, fun H1 q1 q2 f1 f2 n12 h1 h2 h3 k1 => ?_⟩
    have l := goF_len (e := 0) (pl := 0) (to := 0) (q1 := q1) (q2 := q2) hl
    refine ⟨_, rfl, p, CW, dx, _, rfl, h3, T.Worker.cl, T.n_Worker_number, by omega, ?_⟩
    have n1 : q1 ≠ p := ne_of h1 h3 (by intro z; cases z)
    have n2 : q2 ≠ p := ne_of h2 h3 (by intro z; cases z)
    exact k _ q1 q2 f1 f2 n12 (by rw [upd_ne n1]; exact h1) (by rw [upd_ne n2]; exact h2) upd_same (k1.trans (Kp.upd (by simp) h3 (by intro xs z; cases z)))
theorem ok_Worker_init (T : Txt K mg CT CK CL CW CJ) : IOk P w K mg base CW 4 ["self", "up"] (spWkInit CW) := by
  obtain ⟨f, fd, M, F, B⟩ := T.m_Worker_init.ex
  obtain ⟨f1, fd1, M1, B1, G1⟩ := ok_forget (P := P) (w := w) (base := base) T
  refine ⟨f, fd, ⟨T.Worker.makes, M.at_, M.fn, T.Worker.kp⟩, B, F.ok c_Worker_init (fun vs H Q E h => ?_) (fun cdv A outer s H vs Q E hr h => ?_)⟩
  · obtain ⟨p, dx, u, rfl, _⟩ := h
    rfl
  · obtain ⟨p, dx, u, rfl, hp, k⟩ := h
    refine ⟨_, pss_cons (ps_fld (pv 0) (pv 1) rfl) (pss_one (ps_expr (pe_meth0 (pv 0) T.Worker.cl M1 G1 hr B1 .nil pass0))), ?_⟩
    refine ⟨_, rfl, _, rfl, p, CW, dx, [], rfl, hp, T.Worker.cl, T.n_Worker_up, by decide, ?_⟩
    refine ⟨_, rfl, p, dx, _, rfl, upd_same, rfl, ?_⟩
    refine ⟨p, dx, _, rfl, upd_same, by show 1 ≤ 90; decide, rfl, rfl, fun H1 q1 q2 f1 f2 n12 h1 h2 h3 k1 => ?_⟩
    have n1 : q1 ≠ p := ne_of h1 h3 (by intro z; cases z)
    have n2 : q2 ≠ p := ne_of h2 h3 (by intro z; cases z)
    refine k _ q1 q2 (by rw [← f1, upd_ne n1]) (by rw [← f2, upd_ne n2]) ⟨n12, (by intro z; cases z), ⟨dx, h3⟩, ⟨1, 1, h1, fun z => absurd rfl z⟩, h2⟩ ?_
    exact (Kp.upd (by simp) hp (by intro xs z; cases z)).trans k1
end
end Sw

namespace Sw
open PySem PySem.Spec PyProof.Rows L2
/-- a request as its tuple; nothing: the empty one -/
def reqV : Option Hs08.Req → List V
  | none => []
  | some r => (Hs08.reqTold r).map vn
theorem and_rest {b1 : Bool} {A : (V → Hp → Prop) → Prop} {Q : V → Hp → Prop} {H : Hp} (b2 b : Bool) (hb : (b1 && b2) = b) (hA : ∀ Q' : V → Hp → Prop, Q' (.bl b2) H → A Q') (hq : Q (.bl b) H) : if b1 = true then A Q else Q (.bl false) H := by
  subst hb
  cases b1 with
  | true => exact iteT (hA Q hq)
  | false => exact iteF hq
/-- what it asks for a number of the input -/
def writes (x : Hs08.Worker) (e v : Nat) : Hs08.Req :=
  if (if Hs08.plus x.sum v % 2 = 0 then x.has0 else x.has1) = true then .add e x.n (Hs08.plus x.sum v % 2) (if Hs08.plus x.sum v % 2 = 0 then x.seq0 else x.seq1) (Hs08.plus x.sum v) else .log e x.n (Hs08.plus x.sum v % 2)
def spWrite (C : Addr) : Sp := fun vs H Q _ => ∃ (p nn gl : Addr) (x : Hs08.Worker) (e v : Nat), vs = [.ref p, vn v] ∧ WkAt C H p nn gl x ∧ x.epoch = some e ∧
  ∀ (H' : Hp) (t : Addr), H' t = some (.tup (reqV (some (writes x e v)))) → Kp [] H H' → Q (.ref t) H'
def spNext (C : Addr) : Sp := fun vs H Q _ => ∃ (p nn gl nu : Addr) (x : Hs08.Worker) (s : Hs08.St), vs = [.ref p, .ref nu, vn s.batch] ∧ WkAt C H p nn gl x ∧ H nu = some (.lst (s.input.map vn)) ∧ x.up = true ∧ 1 ≤ s.batch ∧
  ∀ (H' : Hp) (t : Addr), H' t = some (.tup (reqV (Hs08.wants s x))) → Kp [] H H' → Q (.ref t) H'
def askedO (x : Hs08.Worker) : Option Hs08.Req → Hs08.Worker
  | none => x
  | some r => Hs08.asked x r
def spAsk (C : Addr) : Sp := fun vs H Q _ => ∃ (p nn gl nu : Addr) (x : Hs08.Worker) (s : Hs08.St), vs = [.ref p, .ref nu, vn s.batch] ∧ WkAt C H p nn gl x ∧ H nu = some (.lst (s.input.map vn)) ∧ x.up = true ∧ 1 ≤ s.batch ∧
  ∀ (H' : Hp) (t : Addr), H' t = some (.tup (reqV (Hs08.wants s x))) → WkAt C H' p nn gl (askedO x (Hs08.wants s x)) → Kp [p] H H' → Q (.ref t) H'
theorem bit_lt (n : Nat) : n % 2 < 2 := Nat.mod_lt _ (by decide)
theorem pick {α : Type} {a b : α} {j : Nat} (h : j < 2) : [a, b][j]? = some (if j = 0 then a else b) := by
  match j, h with
  | 0, _ => rfl
  | 1, _ => rfl
section
variable {P : Program} {w : World} {K : PySem.W.Frag} {mg : Str → Option Value} {base : Heap} {CT CK CL CW CJ : Addr}
theorem ok_write_request (T : Txt K mg CT CK CL CW CJ) : MOk P w K mg base CW "write_request" 1 ["self", "value"] (spWrite CW) := by
  obtain ⟨f, fd, M, F, B⟩ := T.m_Worker_write_request.ex
  refine ⟨f, fd, M, B, F.ok c_Worker_write_request (fun vs H Q E h => ?_) (fun cdv A outer s H vs Q E hr h => ?_)⟩
  · obtain ⟨p, nn, gl, x, e, v, rfl, _⟩ := h
    rfl
  · obtain ⟨p, nn, gl, x, e, v, rfl, L, he, k⟩ := h
    have nd := c_Worker_write_request.nd
    obtain ⟨dx, h1⟩ := L.ex
    obtain ⟨a, b, h2, hab⟩ := L.nx
    obtain ⟨rfl, rfl⟩ := hab (by rw [he]; simp)
    rw [he] at h1
    refine ⟨_, pss_cons (ps_set (i := 2) nd rfl (Or.inl rfl) (pe_op op_mod (pe_op op_add (pe_fld (pv 0) rfl) (pv 1)) (pe_num rfl T.k_MODULUS)))
      (pss_cons (ps_set (i := 3) nd rfl (Or.inl rfl) (pe_op op_mod (pv 2) pe_int))
      (pss_cons (ps_if (pt_not (pt_val (pe_ix ix_list (pe_fld (pv 0) rfl) (pv 3) (fun _ _ => rfl)))) (pss_one (ps_ret (pe_tup (pa_cons (pe_num rfl T.k_LOG) (pa_cons (pe_fld (pv 0) rfl) (pa_cons (pe_fld (pv 0) rfl) (pa_cons (pv 3) pa_nil))))))) pss_nil)
      (pss_one (ps_ret (pe_tup (pa_cons (pe_num rfl T.k_DATA) (pa_cons (pe_fld (pv 0) rfl) (pa_cons (pe_fld (pv 0) rfl) (pa_cons (pv 3) (pa_cons (pe_ix ix_list (pe_fld (pv 0) rfl) (pv 3) (fun _ _ => rfl)) (pa_cons (pv 2) pa_nil))))))))))), ?_⟩
    refine ⟨_, rfl, p, CW, dx, _, _, rfl, h1, T.Worker.cl, T.n_Worker_total, wf_total _ _ _ _ _ _ _ _ _, _, rfl, _, _, rfl, rfl, _, _, rfl, rfl, (by show (0 : Int) < 1000003; decide), ?_⟩
    refine ⟨vn (Hs08.plus x.sum v), rfl, _, _, rfl, rfl, (by show (0 : Int) < 2; decide), ?_⟩
    have hj := bit_lt (Hs08.plus x.sum v)
    have hw : writes x e v = if (if Hs08.plus x.sum v % 2 = 0 then x.has0 else x.has1) = true then .add e x.n (Hs08.plus x.sum v % 2) (if Hs08.plus x.sum v % 2 = 0 then x.seq0 else x.seq1) (Hs08.plus x.sum v) else .log e x.n (Hs08.plus x.sum v % 2) := rfl
    have hg : [V.bl x.has0, V.bl x.has1][Hs08.plus x.sum v % 2]? = some (.bl (if Hs08.plus x.sum v % 2 = 0 then x.has0 else x.has1)) := by
      rw [pick hj]; split <;> rfl
    have hs : [vn x.seq0, vn x.seq1][Hs08.plus x.sum v % 2]? = some (vn (if Hs08.plus x.sum v % 2 = 0 then x.seq0 else x.seq1)) := by
      rw [pick hj]; split <;> rfl
    generalize (if Hs08.plus x.sum v % 2 = 0 then x.has0 else x.has1) = hb at hg hw
    generalize (if Hs08.plus x.sum v % 2 = 0 then x.seq0 else x.seq1) = sq at hs hw
    refine ⟨_, rfl, p, CW, dx, _, _, rfl, h1, T.Worker.cl, T.n_Worker_granted_logs, wf_glogs _ _ _ _ _ _ _ _ _, vn (Hs08.plus x.sum v % 2), rfl, gl, _, _, _, rfl, rfl, SqL.of L.gr, atI_nat hg, _, rfl, ?_⟩
    cases hb with
    | false =>
      refine iteT ?_
      refine ⟨_, rfl, p, CW, dx, _, _, rfl, h1, T.Worker.cl, T.n_Worker_epoch, wf_epoch _ _ _ _ _ _ _ _ _, _, rfl, p, CW, dx, _, _, rfl, h1, T.Worker.cl, T.n_Worker_number, wf_number _ _ _ _ _ _ _ _ _, vn (Hs08.plus x.sum v % 2), rfl, by show 4 ≤ sizeLine; decide, fun t ht => ?_⟩
      rw [if_neg (by decide)] at hw
      rw [hw] at k
      exact k _ t upd_same (Kp.new ht)
    | true =>
      refine iteF ?_
      refine ⟨_, rfl, p, CW, dx, _, _, rfl, h1, T.Worker.cl, T.n_Worker_epoch, wf_epoch _ _ _ _ _ _ _ _ _, _, rfl, p, CW, dx, _, _, rfl, h1, T.Worker.cl, T.n_Worker_number, wf_number _ _ _ _ _ _ _ _ _, vn (Hs08.plus x.sum v % 2), rfl,
        _, rfl, p, CW, dx, _, _, rfl, h1, T.Worker.cl, T.n_Worker_next_numbers, wf_next _ _ _ _ _ _ _ _ _, vn (Hs08.plus x.sum v % 2), rfl, nn, _, _, _, rfl, rfl, SqL.of h2, atI_nat hs, vn (Hs08.plus x.sum v), rfl, by show 6 ≤ sizeLine; decide, fun t ht => ?_⟩
      rw [if_pos rfl] at hw
      rw [hw] at k
      exact k _ t upd_same (Kp.new ht)
theorem ok_next_request (T : Txt K mg CT CK CL CW CJ) : MOk P w K mg base CW "next_request" 2 ["self", "numbers", "batch"] (spNext CW) := by
  obtain ⟨f, fd, M, F, B⟩ := T.m_Worker_next_request.ex
  obtain ⟨f1, fd1, M1, B1, G1⟩ := ok_write_request (P := P) (w := w) (base := base) T
  refine ⟨f, fd, M, B, F.ok c_Worker_next_request (fun vs H Q E h => ?_) (fun cdv A outer s H vs Q E hr h => ?_)⟩
  · obtain ⟨p, nn, gl, nu, x, s, rfl, _⟩ := h
    rfl
  · obtain ⟨p, nn, gl, nu, x, s, rfl, L, hnu, hup, hba, k⟩ := h
    have nd := c_Worker_next_request.nd
    obtain ⟨dx, h1⟩ := L.ex
    refine ⟨_, pss_cons (ps_if (pt_cmpR op_eq (pe_fld (pv 0) rfl) pe_int (nomark _)) (pss_one (ps_ret (pe_tup (pa_cons (pe_num rfl T.k_BEGIN) pa_nil)))) pss_nil)
      (pss_cons (ps_set (i := 3) nd rfl (Or.inl rfl) (pe_and (pe_cmpR op_lt (pe_fld (pv 0) rfl) (pe_callB call_len_seq (by rfl) T.b_len PySem.boot_len (pa_cons (pv 1) pa_nil)) (nomark _)) (pe_one (pe_cmpR op_lt (pe_fld (pv 0) rfl) (pv 2) (nomark _)))))
      (pss_cons (ps_if (PW.pt (pw_and (pt_val (pv 3)) (pw_and1 (pt_not (pt_val (pe_fld (pv 0) rfl)))))) (pss_one (ps_ret (pe_meth (pv 0) T.Worker.cl M1 G1 hr B1 .nil pass0 (pa_cons (pe_ix ix_list (pv 1) (pe_fld (pv 0) rfl) (fun _ _ => rfl)) pa_nil)))) pss_nil)
      (pss_cons (ps_if (PW.pt (pw_or (pt_val (pe_fld (pv 0) rfl)) (pw_or1 (pt_cmpR op_gt (pe_fld (pv 0) rfl) pe_int (nomark _))))) (pss_one (ps_ret (pe_tup (pa_cons (pe_num rfl T.k_END) (pa_cons (pe_fld (pv 0) rfl) (pa_cons (pe_fld (pv 0) rfl) (pa_cons (pe_fld (pv 0) rfl) (pa_cons (pe_fld (pv 0) rfl) pa_nil)))))))) pss_nil)
      (pss_one (ps_ret (pe_tup pa_nil)))))), ?_⟩
    have hwants : Hs08.wants s x = match x.epoch with
      | none => some .begin_
      | some e =>
        if x.ending = true then some (.commit e x.n x.pos x.sum) else
        match s.input[x.pos]? with
        | some v => if x.wrote < s.batch then some (writes x e v) else some (.commit e x.n x.pos x.sum)
        | none => if 0 < x.wrote then some (.commit e x.n x.pos x.sum) else none := by
      unfold Hs08.wants
      rw [if_neg (by rw [hup]; decide)]
      cases x.epoch with
      | none => rfl
      | some e =>
        dsimp only
        split
        · rfl
        · cases s.input[x.pos]? with
          | none => rfl
          | some v =>
            dsimp only
            split
            · unfold writes
              split <;> split <;> rfl
            · rfl
    refine ⟨_, rfl, p, CW, dx, _, _, rfl, h1, T.Worker.cl, T.n_Worker_epoch, wf_epoch _ _ _ _ _ _ _ _ _, rfl, _, rfl, ?_⟩
    have e0 := L.e0
    cases he : x.epoch with
    | none =>
      rw [he] at hwants
      dsimp only at hwants
      rw [hwants] at k
      refine iteT ?_
      refine ⟨by show 1 ≤ sizeLine; decide, fun t ht => ?_⟩
      exact k _ t upd_same (Kp.new ht)
    | some e =>
      rw [he] at hwants h1 e0
      dsimp only at hwants
      have ne0 : ¬ (vn ((some e).getD 0) = V.int 0) := fun z => e0 (by
        have z' : e = 0 := vn_inj (b := 0) |>.mp z
        rw [z'])
      rw [decide_eq_false ne0]
      refine iteF ?_
      refine ⟨_, rfl, p, CW, dx, _, _, rfl, h1, T.Worker.cl, T.n_Worker_place, wf_place _ _ _ _ _ _ _ _ _, _, rfl, nu, _, rfl, .inl (SqL.of hnu), _, _, rfl, rfl, _, rfl, ?_⟩
      have hlen : (s.input.map vn).length = s.input.length := List.length_map _
      obtain ⟨b, hb⟩ : ∃ b, (decide ((x.pos : Int) < ((s.input.map vn).length : Int)) && decide ((x.wrote : Int) < (s.batch : Int))) = b := ⟨_, rfl⟩
      refine and_rest (decide ((x.wrote : Int) < (s.batch : Int))) b hb (fun Q' hQ => ⟨_, rfl, p, CW, dx, _, _, rfl, h1, T.Worker.cl, T.n_Worker_granted_data, wf_gdata _ _ _ _ _ _ _ _ _, _, rfl, _, _, rfl, rfl, hQ⟩) ?_
      rw [hlen] at hb
      refine ⟨_, rfl, b, rfl, ?_⟩
      have theEnd : Hs08.wants s x = some (.commit e x.n x.pos x.sum) → ∀ (t : Addr), H t = none → Q (.ref t) (upd H t (.tup [.int 4, vn e, vn x.n, vn x.pos, vn x.sum])) := by
        intro hw t ht
        rw [hw] at k
        exact k _ t upd_same (Kp.new ht)
      have endRead : ∀ (σ : L2.St), σ[0]? = some (some (V.ref p)) → Hs08.wants s x = some (.commit e x.n x.pos x.sum) →
          tTup (tCons (tC (.int 4)) (tCons (tFld K (tVar 0) "epoch") (tCons (tFld K (tVar 0) "number") (tCons (tFld K (tVar 0) "place") (tCons (tFld K (tVar 0) "total") tNil))))) σ H Q := by
        intro σ hσ hw
        exact ⟨_, hσ, p, CW, dx, _, _, rfl, h1, T.Worker.cl, T.n_Worker_epoch, wf_epoch _ _ _ _ _ _ _ _ _, _, hσ, p, CW, dx, _, _, rfl, h1, T.Worker.cl, T.n_Worker_number, wf_number _ _ _ _ _ _ _ _ _, _, hσ, p, CW, dx, _, _, rfl, h1, T.Worker.cl, T.n_Worker_place, wf_place _ _ _ _ _ _ _ _ _, _, hσ, p, CW, dx, _, _, rfl, h1, T.Worker.cl, T.n_Worker_total, wf_total _ _ _ _ _ _ _ _ _, by show 5 ≤ sizeLine; decide, fun t ht => theEnd hw t ht⟩
      cases b with
      | true =>
        refine iteT ?_
        rw [Bool.and_eq_true] at hb
        have hpos : x.pos < s.input.length := by have := of_decide_eq_true hb.1; omega
        have hwr : x.wrote < s.batch := by have := of_decide_eq_true hb.2; omega
        obtain ⟨v, hv⟩ : ∃ v, s.input[x.pos]? = some v := ⟨_, List.getElem?_eq_getElem hpos⟩
        refine ⟨_, rfl, p, CW, dx, _, _, rfl, h1, T.Worker.cl, T.n_Worker_ending, wf_ending _ _ _ _ _ _ _ _ _, _, rfl, ?_⟩
        cases hE : x.ending with
        | false =>
          refine iteT ?_
          rw [hE, if_neg (by decide), hv] at hwants
          dsimp only at hwants
          rw [if_pos hwr] at hwants
          rw [hwants] at k
          refine ⟨_, rfl, p, dx, _, rfl, h1, wf_no _ _ _ _ _ _ _ _ _ (by decide +kernel), ?_⟩
          refine ⟨_, rfl, _, rfl, p, CW, dx, _, _, rfl, h1, T.Worker.cl, T.n_Worker_place, wf_place _ _ _ _ _ _ _ _ _, nu, _, _, vn v, rfl, rfl, SqL.of hnu, atI_nat (by rw [List.getElem?_map, hv]; rfl), ?_⟩
          exact ⟨p, nn, gl, x, e, v, rfl, L, he, fun H' t ht kk => k H' t ht kk⟩
        | true =>
          refine iteF ?_
          rw [hE, if_pos rfl] at hwants
          refine ⟨_, rfl, p, CW, dx, _, _, rfl, h1, T.Worker.cl, T.n_Worker_ending, wf_ending _ _ _ _ _ _ _ _ _, _, rfl, ?_⟩
          rw [hE]
          exact iteT (endRead _ rfl hwants)
      | false =>
        refine iteF ?_
        refine ⟨_, rfl, p, CW, dx, _, _, rfl, h1, T.Worker.cl, T.n_Worker_ending, wf_ending _ _ _ _ _ _ _ _ _, _, rfl, ?_⟩
        cases hE : x.ending with
        | true =>
          rw [hE, if_pos rfl] at hwants
          exact iteT (endRead _ rfl hwants)
        | false =>
          refine iteF ?_
          rw [hE, if_neg (by decide)] at hwants
          refine ⟨_, rfl, p, CW, dx, _, _, rfl, h1, T.Worker.cl, T.n_Worker_granted_data, wf_gdata _ _ _ _ _ _ _ _ _, _, _, rfl, rfl, _, rfl, ?_⟩
          refine ite2 (fun c => ?_) (fun c => ?_)
          · have c' : 0 < x.wrote := by have := of_decide_eq_true c; omega
            refine endRead _ rfl ?_
            rw [hwants]
            cases hv : s.input[x.pos]? with
            | none => dsimp only; rw [if_pos c']
            | some v =>
              dsimp only
              rw [if_neg]
              intro z
              have hpos : x.pos < s.input.length := (List.getElem?_eq_some_iff.mp hv).1
              rw [decide_eq_true (by omega), decide_eq_true (by omega)] at hb
              cases hb
          · have c' : ¬ 0 < x.wrote := fun z => c (decide_eq_true (by omega))
            refine ⟨by show 0 ≤ sizeLine; decide, fun t ht => ?_⟩
            have hn : Hs08.wants s x = none := by
              rw [hwants]
              cases hv : s.input[x.pos]? with
              | none => dsimp only; rw [if_neg c']
              | some v =>
                have hpos : x.pos < s.input.length := (List.getElem?_eq_some_iff.mp hv).1
                rw [decide_eq_true (by omega), decide_eq_true (by omega)] at hb
                cases hb
            rw [hn] at k
            exact k _ t upd_same (Kp.new ht)
end
end Sw

namespace Sw
open PySem PySem.Spec PyProof.Rows L2
def reqN : Option Hs08.Req → List Nat
  | none => []
  | some r => Hs08.reqTold r
theorem reqV_eq (o : Option Hs08.Req) : reqV o = (reqN o).map vn := by cases o <;> rfl
theorem reqTold_ne (r : Hs08.Req) : Hs08.reqTold r ≠ [] := by cases r <;> intro z <;> cases z
def intsD (ns : List Nat) : List PyData := ns.map fun (n : Nat) => PyData.int (n : Int)
theorem dp_all {K : PySem.W.Frag} {H : Hp} : ∀ (ns : List Nat), DpAll K H (ns.map vn) (intsD ns)
  | [] => .nil
  | n :: r => .cons (.int _) (dp_all r)
theorem can_ints : ∀ ns : List Nat, PyData.canLayAll0 (intsD ns) = true
  | [] => by simp [intsD, PyData.canLayAll0]
  | n :: r => by
    have ih := can_ints r
    unfold intsD at ih ⊢
    rw [List.map_cons, PyData.canLayAll0, ih]
    simp [PyData.canLay0]
theorem depth_ints : ∀ ns : List Nat, PyData.depthAll (intsD ns) = 0
  | [] => by simp [intsD, PyData.depthAll]
  | n :: r => by
    have ih := depth_ints r
    unfold intsD at ih ⊢
    rw [List.map_cons, PyData.depthAll, ih]
    simp [PyData.depth]
theorem shaped_ints (ns : List Nat) : SeqAt.shaped (.tuple (intsD ns)) = true := by
  unfold SeqAt.shaped
  rw [PyData.canLay0, can_ints, PyData.depth, depth_ints]
  decide
theorem eqv_nil (ns : List Nat) : PyData.eqv (.tuple (intsD ns)) (.tuple (intsD [])) = ns.isEmpty := by
  rw [PyData.eqv]
  cases ns with
  | nil => simp [intsD, PyData.eqvAll]
  | cons n r => simp [intsD, PyData.eqvAll]
section
variable {X : Cx}
def rNeN : R2 := fun x y H Q => ∃ (a b : Addr) (ns : List Nat), x = .ref a ∧ y = .ref b ∧ H a = some (.tup (ns.map vn)) ∧ H b = some (.tup []) ∧ Q (.bl (!ns.isEmpty)) H
def rEqN : R2 := fun x y H Q => ∃ (a b : Addr) (ns : List Nat), x = .ref a ∧ y = .ref b ∧ H a = some (.tup (ns.map vn)) ∧ H b = some (.tup []) ∧ Q (.bl ns.isEmpty) H
theorem op_neN (hu : X.A.units + 64 < cLine) : OpR X (compareOp .NotEq) rNeN := by
  intro pins s σ H x y v u Q I rx ry h
  obtain ⟨a, b, ns, rfl, rfl, ha, hb, q⟩ := h
  refine op_neD hu pins s σ H _ _ v u Q I rx ry ⟨.tuple (intsD ns), .tuple (intsD []), .tup (SqT.of ha) (dp_all ns), .tup (SqT.of hb) (dp_all []), shaped_ints ns, shaped_ints [], ?_⟩
  rw [eqv_nil]
  exact q
theorem op_eqN (hu : X.A.units + 64 < cLine) : OpR X (compareOp .Eq) rEqN := by
  intro pins s σ H x y v u Q I rx ry h
  obtain ⟨a, b, ns, rfl, rfl, ha, hb, q⟩ := h
  refine op_eqD hu pins s σ H _ _ v u Q I rx ry ⟨.tuple (intsD ns), .tuple (intsD []), .tup (SqT.of ha) (dp_all ns), .tup (SqT.of hb) (dp_all []), shaped_ints ns, shaped_ints [], ?_⟩
  rw [eqv_nil]
  exact q
end
/-- a request's first number -/
def kindN : Hs08.Req → Nat
  | .begin_ => 1
  | .log _ _ _ => 2
  | .add _ _ _ _ _ => 3
  | .commit _ _ _ _ => 4
theorem told_head (r : Hs08.Req) : ∃ l, (Hs08.reqTold r).map vn = vn (kindN r) :: l := by cases r <;> exact ⟨_, rfl⟩
theorem at0 {v : V} {l : List V} : atI (v :: l) (0 : Int) = some v := atI_nat (j := 0) rfl
def isBegin : Hs08.Req → Bool
  | .begin_ => true
  | _ => false
/-- the places of a request are 0 or 1 -/
def reqOk : Hs08.Req → Prop
  | .log _ _ j => j < 2
  | .add _ _ j _ _ => j < 2
  | _ => True
/-- what comes with a granted begin is an epoch -/
def ansOk (r : Hs08.Req) : Hs08.Ans → Prop
  | .ok e _ _ => isBegin r = true → e ≠ 0
  | _ => True
def spTakeData (C : Addr) : Sp := fun vs H Q _ => ∃ (p nn gl : Addr) (x : Hs08.Worker) (e n j q v : Nat), vs = [.ref p, vn j, vn v] ∧ WkAt C H p nn gl x ∧ j < 2 ∧
  ∀ (H' : Hp), WkAt C H' p nn gl (Hs08.hears x (.add e n j q v) (.ok 0 0 0)) → Kp [p, nn, gl] H H' → Q .non H'
def spTake (C : Addr) : Sp := fun vs H Q _ => ∃ (p nn gl tr ta : Addr) (x : Hs08.Worker) (r : Hs08.Req) (e pl su : Nat), vs = [.ref p, .ref tr, .ref ta] ∧ WkAt C H p nn gl x ∧ reqOk r ∧ ansOk r (.ok e pl su) ∧
  H tr = some (.tup ((Hs08.reqTold r).map vn)) ∧ H ta = some (.tup (ansT (isBegin r) (.ok e pl su))) ∧
  ∀ (H' : Hp) (nn' gl' : Addr), WkTo C H H' p nn gl nn' gl' (Hs08.hears x r (.ok e pl su)) → Q .non H'
def spHear (C : Addr) : Sp := fun vs H Q _ => ∃ (p nn gl tr ta : Addr) (x : Hs08.Worker) (r : Hs08.Req) (a : Hs08.Ans), vs = [.ref p, .ref tr, .ref ta] ∧ WkAt C H p nn gl x ∧ reqOk r ∧ ansOk r a ∧
  H tr = some (.tup ((Hs08.reqTold r).map vn)) ∧ H ta = some (.tup (ansT (isBegin r) a)) ∧
  ∀ (H' : Hp) (nn' gl' : Addr), WkTo C H H' p nn gl nn' gl' (Hs08.hears x r a) → Q .non H'
section
variable {P : Program} {w : World} {K : PySem.W.Frag} {mg : Str → Option Value} {base : Heap} {CT CK CL CW CJ : Addr}
theorem ok_ask (T : Txt K mg CT CK CL CW CJ) : MOk P w K mg base CW "ask" 3 ["self", "numbers", "batch"] (spAsk CW) := by
  obtain ⟨f, fd, M, F, B⟩ := T.m_Worker_ask.ex
  obtain ⟨f1, fd1, M1, B1, G1⟩ := ok_next_request (P := P) (w := w) (base := base) T
  refine ⟨f, fd, M, B, F.ok c_Worker_ask (fun vs H Q E h => ?_) (fun cdv A outer s H vs Q E hr h => ?_)⟩
  · obtain ⟨p, nn, gl, nu, x, s, rfl, _⟩ := h
    rfl
  · obtain ⟨p, nn, gl, nu, x, s, rfl, L, hnu, hup, hba, k⟩ := h
    have nd := c_Worker_ask.nd
    obtain ⟨dx, h1⟩ := L.ex
    have np := L.pn
    have ng := L.pg
    refine ⟨_, pss_cons (ps_set (i := 3) nd rfl (Or.inl rfl) (pe_meth (pv 0) T.Worker.cl M1 G1 hr B1 .nil pass0 (pa_cons (pv 1) (pa_cons (pv 2) pa_nil))))
      (pss_cons (ps_if (PW.pt (pw_and (pt_cmpR (op_neN hr.units) (pv 3) (pe_tup pa_nil) (nomark _)) (pw_and1 (pt_cmpR op_eq (pe_ix ix_tup (pv 3) pe_int (fun _ _ => rfl)) (pe_num rfl T.k_END) (nomark _))))) (pss_one (ps_fld (pv 0) pe_bl rfl)) pss_nil)
      (pss_one (ps_ret (pv 3)))), ?_⟩
    refine ⟨_, rfl, p, dx, _, rfl, h1, wf_no _ _ _ _ _ _ _ _ _ (by decide +kernel), _, rfl, _, rfl, ?_⟩
    refine ⟨p, nn, gl, nu, x, s, rfl, L, hnu, hup, hba, fun H1 t ht k1 => ?_⟩
    rw [reqV_eq] at ht
    have s1 := k1.same
    have hp1 := s1 _ _ h1
    refine ⟨_, rfl, by show 0 ≤ sizeLine; decide, fun q hq => ?_⟩
    have ntq : t ≠ q := ne_of_none ht hq
    have npq : p ≠ q := ne_of_none hp1 hq
    have ht2 : upd H1 q (.tup []) t = some (.tup ((reqN (Hs08.wants s x)).map vn)) := by rw [upd_ne ntq]; exact ht
    refine ⟨t, q, _, rfl, rfl, ht2, upd_same, _, rfl, ?_⟩
    have k2 : Kp [] H (upd H1 q (.tup [])) := k1.trans (Kp.new hq)
    have L2' := L.keep k2 (by simp) (by simp) (by simp)
    cases hw : Hs08.wants s x with
    | none =>
      rw [hw] at k ht2
      refine iteF ?_
      refine ⟨_, rfl, ?_⟩
      exact k _ t ht2 L2' (k2.mono (by simp))
    | some r =>
      rw [hw] at k ht2
      have e1 : (!(reqN (some r)).isEmpty) = true := by cases r <;> rfl
      rw [e1]
      refine iteT ?_
      obtain ⟨l, hl⟩ := told_head r
      have ht3 : upd H1 q (.tup []) t = some (.tup (vn (kindN r) :: l)) := by rw [ht2]; exact congrArg (fun z => some (HO.tup z)) hl
      refine ⟨_, rfl, t, _, _, _, rfl, rfl, SqT.of ht3, at0, rfl, _, rfl, ite2 (fun c => ?_) (fun c => ?_)⟩
      · have c' : kindN r = 4 := vn_inj (b := 4) |>.mp (of_decide_eq_true c)
        refine ⟨_, rfl, p, CW, dx, _, rfl, by rw [upd_ne npq]; exact hp1, T.Worker.cl, T.n_Worker_ending, by show 9 < 1000; decide, ?_⟩
        refine ⟨_, rfl, ?_⟩
        obtain ⟨e, n, pl, su, rfl⟩ : ∃ e n pl su, r = .commit e n pl su := by
          cases r with
          | commit e n pl su => exact ⟨e, n, pl, su, rfl⟩
          | begin_ => exact absurd c' (show ¬ (1 = 4) by decide)
          | log _ _ _ => exact absurd c' (show ¬ (2 = 4) by decide)
          | add _ _ _ _ _ => exact absurd c' (show ¬ (3 = 4) by decide)
        have hp2 : upd H1 q (.tup []) p = some (.ins CW dx (wf x.up (x.epoch.getD 0) x.pos x.sum nn x.n gl x.wrote x.ending)) := by rw [upd_ne npq]; exact hp1
        have ntp : t ≠ p := ne_of ht2 hp2 (by intro z; cases z)
        refine k _ t (by rw [upd_ne ntp]; exact ht2) ?_ ((k2.mono (by simp)).trans (Kp.upd (by simp) hp2 (by intro xs z; cases z)))
        obtain ⟨a, b, h3, h4⟩ := L2'.nx
        exact ⟨L.ne, L.e0, ⟨dx, upd_same⟩, ⟨a, b, by rw [upd_ne np.symm]; exact h3, h4⟩, by rw [upd_ne ng.symm]; exact L2'.gr⟩
      · have c' : kindN r ≠ 4 := fun z => c (decide_eq_true (vn_inj (b := 4) |>.mpr z))
        refine ⟨_, rfl, ?_⟩
        have er : askedO x (some r) = x := by
          cases r with
          | commit e n pl su => exact absurd rfl c'
          | begin_ => rfl
          | log _ _ _ => rfl
          | add _ _ _ _ _ => rfl
        rw [er] at k
        exact k _ t ht2 L2' (k2.mono (by simp))
theorem ok_take_data (T : Txt K mg CT CK CL CW CJ) : MOk P w K mg base CW "take_data" 1 ["self", "j", "total"] (spTakeData CW) := by
  obtain ⟨f, fd, M, F, B⟩ := T.m_Worker_take_data.ex
  refine ⟨f, fd, M, B, F.ok c_Worker_take_data (fun vs H Q E h => ?_) (fun cdv A outer s H vs Q E hr h => ?_)⟩
  · obtain ⟨p, nn, gl, x, e, n, j, q, v, rfl, _⟩ := h
    rfl
  · obtain ⟨p, nn, gl, x, e, n, j, q, v, rfl, L, hj, k⟩ := h
    obtain ⟨dx, h1⟩ := L.ex
    obtain ⟨a, b, h2, hab⟩ := L.nx
    have np := L.pn
    have ng := L.pg
    refine ⟨_, pss_cons (ps_fldaug (pv 0) pe_int in_add) (pss_cons (ps_fld (pv 0) (pv 2) rfl) (pss_cons (ps_augS (pe_fld (pv 0) rfl) (pv 1) get_list pe_int ip_add set_list) (pss_one (ps_fldaug (pv 0) pe_int in_add)))), ?_⟩
    refine ⟨_, rfl, p, CW, dx, _, _, rfl, h1, T.Worker.cl, T.n_Worker_place, wf_place _ _ _ _ _ _ _ _ _, _, _, rfl, rfl, dx, _, h1, by show 9 < 1000; decide, ?_⟩
    refine ⟨_, rfl, _, rfl, p, CW, dx, _, rfl, upd_same, T.Worker.cl, T.n_Worker_total, by show 9 < 1000; decide, ?_⟩
    rw [upd_upd]
    have hpk : [vn a, vn b][j]? = some (vn (if j = 0 then a else b)) := by
      rw [pick hj]; split <;> rfl
    refine ⟨_, rfl, p, CW, dx, _, _, rfl, upd_same, T.Worker.cl, T.n_Worker_next_numbers, rfl, _, rfl, nn, _, j, _, rfl, rfl, SqL.of (by rw [upd_ne np.symm]; exact h2), hpk, _, _, rfl, rfl, nn, _, _, j, rfl, rfl, by rw [upd_ne np.symm]; exact h2, ?_, ?_⟩
    · unfold ixN
      rw [if_pos (by omega), if_pos (by show (j : Int) < 2; omega)]; simp
    · refine ⟨_, rfl, p, CW, dx, _, _, rfl, by rw [upd_ne np, upd_same], T.Worker.cl, T.n_Worker_granted_data, rfl, _, _, rfl, rfl, dx, _, by rw [upd_ne np, upd_same], by show 9 < 1000; decide, ?_⟩
      have hset : ([vn a, vn b]).set j (V.int (((if j = 0 then a else b : Nat) : Int) + 1)) = [vn (if j = 0 then a + 1 else a), vn (if j = 0 then b else b + 1)] := by
        match j, hj with
        | 0, _ => rfl
        | 1, _ => rfl
      refine k _ ⟨L.ne, ?_, ⟨dx, ?_⟩, ⟨if j = 0 then a + 1 else a, if j = 0 then b else b + 1, ?_, ?_⟩, ?_⟩ ⟨fun c o hc nc => ?_, fun c xs hc => ?_⟩
      · unfold Hs08.hears; dsimp only; split <;> exact L.e0
      · rw [upd_same]
        unfold Hs08.hears; dsimp only
        split <;> rfl
      · rw [upd_ne np.symm, upd_same]; exact congrArg (fun z => some (HO.lst z)) hset
      · intro z
        unfold Hs08.hears at z ⊢; dsimp only at z ⊢
        by_cases hz : j = 0
        · rw [if_pos hz] at z ⊢
          obtain ⟨e1, e2⟩ := hab z
          rw [if_pos hz, if_pos hz]
          exact ⟨by show a + 1 = x.seq0 + 1; omega, e2⟩
        · rw [if_neg hz] at z ⊢
          obtain ⟨e1, e2⟩ := hab z
          rw [if_neg hz, if_neg hz]
          exact ⟨e1, by show b + 1 = x.seq1 + 1; omega⟩
      · rw [upd_ne ng.symm, upd_ne L.ne.symm, upd_ne ng.symm]
        unfold Hs08.hears; dsimp only; split <;> exact L.gr
      · simp only [List.mem_cons, List.not_mem_nil, or_false, not_or] at nc
        rw [upd_ne nc.1, upd_ne nc.2.1, upd_ne nc.1]
        exact hc
      · have n1 : c ≠ p := ne_of hc h1 (by intro z; cases z)
        have n2 : c ≠ nn := ne_of hc h2 (by intro z; cases z)
        rw [upd_ne n1, upd_ne n2, upd_ne n1]
        exact hc
theorem ok_take (T : Txt K mg CT CK CL CW CJ) : MOk P w K mg base CW "take" 3 ["self", "request", "answer"] (spTake CW) := by
  obtain ⟨f, fd, M, F, B⟩ := T.m_Worker_take.ex
  obtain ⟨f1, fd1, M1, B1, G1⟩ := ok_go_on_from (P := P) (w := w) (base := base) T
  obtain ⟨f2, fd2, M2, B2, G2⟩ := ok_take_data (P := P) (w := w) (base := base) T
  obtain ⟨f3, fd3, M3, B3, G3⟩ := ok_turn_to (P := P) (w := w) (base := base) T
  refine ⟨f, fd, M, B, F.ok c_Worker_take (fun vs H Q E h => ?_) (fun cdv A outer s H vs Q E hr h => ?_)⟩
  · obtain ⟨p, nn, gl, tr, ta, x, r, e, pl, su, rfl, _⟩ := h
    rfl
  · obtain ⟨p, nn, gl, tr, ta, x, r, e, pl, su, rfl, L, hok, hao, hr1, ha1, k⟩ := h
    have nd := c_Worker_take.nd
    obtain ⟨dx, h1⟩ := L.ex
    obtain ⟨a, b, h2, hab⟩ := L.nx
    have np := L.pn
    have ng := L.pg
    refine ⟨_, pss_cons (ps_set (i := 3) nd rfl (Or.inl rfl) (pe_ix ix_tup (pv 1) pe_int (fun _ _ => rfl)))
      (pss_one (ps_if (pt_cmpR op_eq (pv 3) (pe_num rfl T.k_BEGIN) (nomark _))
        (pss_one (ps_expr (pe_meth (pv 0) T.Worker.cl M1 G1 hr B1 .nil pass0 (pa_cons (pe_ix ix_tup (pv 2) pe_int (fun _ _ => rfl)) (pa_cons (pe_ix ix_tup (pv 2) pe_int (fun _ _ => rfl)) (pa_cons (pe_ix ix_tup (pv 2) pe_int (fun _ _ => rfl)) pa_nil))))))
        (pss_one (ps_if (pt_cmpR op_eq (pv 3) (pe_num rfl T.k_LOG) (nomark _))
          (pss_one (ps_asg pe_bl (pg_sub (pe_fld (pv 0) rfl) (pe_ix ix_tup (pv 1) pe_int (fun _ _ => rfl)) set_list)))
          (pss_one (ps_if (pt_cmpR op_eq (pv 3) (pe_num rfl T.k_DATA) (nomark _))
            (pss_one (ps_expr (pe_meth (pv 0) T.Worker.cl M2 G2 (hr.mono (by decide)) B2 .nil pass0 (pa_cons (pe_ix ix_tup (pv 1) pe_int (fun _ _ => rfl)) (pa_cons (pe_ix ix_tup (pv 1) pe_int (fun _ _ => rfl)) pa_nil)))))
            (pss_one (ps_expr (pe_meth (pv 0) T.Worker.cl M3 G3 (hr.mono (by decide)) B3 .nil pass0 (pa_cons (pe_op op_add (pe_fld (pv 0) rfl) pe_int) pa_nil)))))))))), ?_⟩
    cases r with
    | begin_ =>
      refine ⟨_, rfl, tr, _, _, _, rfl, rfl, SqT.of hr1, at0, ?_⟩
      refine ⟨_, rfl, rfl, _, rfl, iteT ?_⟩
      refine ⟨_, rfl, p, dx, _, rfl, h1, wf_no _ _ _ _ _ _ _ _ _ (by decide +kernel), ?_⟩
      refine ⟨_, rfl, ta, _, _, vn e, rfl, rfl, SqT.of ha1, (by rfl), _, rfl, ta, _, _, vn pl, rfl, rfl, SqT.of ha1, (by rfl), _, rfl, ta, _, _, vn su, rfl, rfl, SqT.of ha1, (by rfl), ?_⟩
      refine ⟨p, dx, _, e, pl, su, rfl, h1, by show 9 ≤ 90; decide, wf_no _ _ _ _ _ _ _ _ _ (by decide +kernel), fun H' q1 q2 f1 f2 n12 hq1 hq2 hp' k1 => ?_⟩
      refine k _ q1 q2 ⟨⟨n12, fun z => hao rfl (Option.some.inj z), ⟨dx, hp'⟩, ⟨1, 1, hq1, fun _ => ⟨rfl, rfl⟩⟩, hq2⟩, .inr f1, .inr f2, k1.mono (by simp)⟩
    | log e1 n1 j =>
      have hj : j < 2 := hok
      refine ⟨_, rfl, tr, _, _, _, rfl, rfl, SqT.of hr1, at0, ?_⟩
      refine ⟨_, rfl, rfl, _, rfl, iteF ?_⟩
      refine ⟨_, rfl, rfl, _, rfl, iteT ?_⟩
      refine ⟨_, rfl, p, CW, dx, _, _, rfl, h1, T.Worker.cl, T.n_Worker_granted_logs, wf_glogs _ _ _ _ _ _ _ _ _, _, rfl, tr, _, _, vn j, rfl, rfl, SqT.of hr1, (by rfl), gl, _, _, j, rfl, rfl, L.gr, ?_, ?_⟩
      · unfold ixN
        rw [if_pos (by omega), if_pos (by show (j : Int) < 2; omega)]; simp
      · refine k _ nn gl ⟨⟨L.ne, ?_, ⟨dx, ?_⟩, ⟨a, b, ?_, ?_⟩, ?_⟩, .inl rfl, .inl rfl, Kp.upd (by simp) L.gr (by intro xs z; cases z)⟩
        · unfold Hs08.hears; dsimp only; split <;> exact L.e0
        · rw [upd_ne ng, h1]; unfold Hs08.hears; dsimp only; split <;> rfl
        · rw [upd_ne L.ne]; exact h2
        · intro z
          unfold Hs08.hears at z ⊢; dsimp only at z ⊢
          by_cases hz : j = 0
          · rw [if_pos hz] at z ⊢; exact hab z
          · rw [if_neg hz] at z ⊢; exact hab z
        · rw [upd_same]; unfold Hs08.hears; dsimp only
          match j, hj with
          | 0, _ => rfl
          | 1, _ => rfl
    | add e1 n1 j q v =>
      have hj : j < 2 := hok
      refine ⟨_, rfl, tr, _, _, _, rfl, rfl, SqT.of hr1, at0, ?_⟩
      refine ⟨_, rfl, rfl, _, rfl, iteF ?_⟩
      refine ⟨_, rfl, rfl, _, rfl, iteF ?_⟩
      refine ⟨_, rfl, rfl, _, rfl, iteT ?_⟩
      refine ⟨_, rfl, p, dx, _, rfl, h1, wf_no _ _ _ _ _ _ _ _ _ (by decide +kernel), ?_⟩
      refine ⟨_, rfl, tr, _, _, vn j, rfl, rfl, SqT.of hr1, (by rfl), _, rfl, tr, _, _, vn v, rfl, rfl, SqT.of hr1, (by rfl), ?_⟩
      refine ⟨p, nn, gl, x, e1, n1, j, q, v, rfl, L, hj, fun H' L' k1 => ?_⟩
      exact k _ nn gl ⟨L', .inl rfl, .inl rfl, k1⟩
    | commit e1 n1 p1 s1 =>
      refine ⟨_, rfl, tr, _, _, _, rfl, rfl, SqT.of hr1, at0, ?_⟩
      refine ⟨_, rfl, rfl, _, rfl, iteF ?_⟩
      refine ⟨_, rfl, rfl, _, rfl, iteF ?_⟩
      refine ⟨_, rfl, rfl, _, rfl, iteF ?_⟩
      refine ⟨_, rfl, p, dx, _, rfl, h1, wf_no _ _ _ _ _ _ _ _ _ (by decide +kernel), ?_⟩
      refine ⟨_, rfl, p, CW, dx, _, _, rfl, h1, T.Worker.cl, T.n_Worker_number, wf_number _ _ _ _ _ _ _ _ _, _, _, rfl, rfl, ?_⟩
      refine ⟨p, dx, _, x.n + 1, rfl, h1, by show 9 ≤ 100; decide, fun H' q fq hq hp' k1 => ?_⟩
      have nnq : nn ≠ q := ne_of_none h2 fq
      refine k _ nn q ⟨⟨nnq, L.e0, ⟨dx, hp'⟩, ⟨a, b, k1.keep _ _ h2 (by simpa using np.symm), hab⟩, hq⟩, .inl rfl, .inr fq, k1.mono (by simp)⟩
theorem ok_hear (T : Txt K mg CT CK CL CW CJ) : MOk P w K mg base CW "hear" 4 ["self", "request", "answer"] (spHear CW) := by
  obtain ⟨f, fd, M, F, B⟩ := T.m_Worker_hear.ex
  obtain ⟨f1, fd1, M1, B1, G1⟩ := ok_forget (P := P) (w := w) (base := base) T
  obtain ⟨f2, fd2, M2, B2, G2⟩ := ok_take (P := P) (w := w) (base := base) T
  refine ⟨f, fd, M, B, F.ok c_Worker_hear (fun vs H Q E h => ?_) (fun cdv A outer s H vs Q E hr h => ?_)⟩
  · obtain ⟨p, nn, gl, tr, ta, x, r, a, rfl, _⟩ := h
    rfl
  · obtain ⟨p, nn, gl, tr, ta, x, r, a, rfl, L, hok, hao, hr1, ha1, k⟩ := h
    obtain ⟨dx, h1⟩ := L.ex
    refine ⟨_, pss_cons (ps_if (pt_cmpR op_eq (pe_ix ix_tup (pv 2) pe_int (fun _ _ => rfl)) (pe_num rfl T.k_SHUT_OUT) (nomark _)) (pss_one (ps_expr (pe_meth0 (pv 0) T.Worker.cl M1 G1 hr B1 .nil pass0))) pss_nil)
      (pss_one (ps_if (pt_cmpR op_eq (pe_ix ix_tup (pv 2) pe_int (fun _ _ => rfl)) (pe_num rfl T.k_GRANTED) (nomark _)) (pss_one (ps_expr (pe_meth (pv 0) T.Worker.cl M2 G2 hr B2 .nil pass0 (pa_cons (pv 1) (pa_cons (pv 2) pa_nil))))) pss_nil)), ?_⟩
    cases a with
    | wait =>
      refine ⟨_, rfl, ta, _, _, _, rfl, rfl, SqT.of ha1, at0, rfl, _, rfl, iteF ?_⟩
      refine ⟨_, rfl, ta, _, _, _, rfl, rfl, SqT.of ha1, at0, rfl, _, rfl, iteF ?_⟩
      have e1 : Hs08.hears x r .wait = x := by cases r <;> rfl
      rw [e1] at k
      exact k _ nn gl ⟨L, .inl rfl, .inl rfl, Kp.refl _ _⟩
    | out =>
      refine ⟨_, rfl, ta, _, _, _, rfl, rfl, SqT.of ha1, at0, rfl, _, rfl, iteT ?_⟩
      refine ⟨_, rfl, p, dx, _, rfl, h1, wf_no _ _ _ _ _ _ _ _ _ (by decide +kernel), ?_⟩
      refine ⟨p, dx, _, rfl, h1, by show 9 ≤ 90; decide, wf_no _ _ _ _ _ _ _ _ _ (by decide +kernel), wf_no _ _ _ _ _ _ _ _ _ (by decide +kernel), fun H' q1 q2 f1 f2 n12 hq1 hq2 hp' k1 => ?_⟩
      refine ⟨_, rfl, ta, _, _, _, rfl, rfl, SqT.of (k1.tups _ _ ha1), at0, rfl, _, rfl, iteF ?_⟩
      have e1 : Hs08.hears x r .out = { Hs08.down with up := x.up } := by cases r <;> rfl
      rw [e1] at k
      exact k _ q1 q2 ⟨⟨n12, (by intro z; cases z), ⟨dx, hp'⟩, ⟨1, 1, hq1, fun z => absurd rfl z⟩, hq2⟩, .inr f1, .inr f2, k1.mono (by simp)⟩
    | ok e pl su =>
      have hh : ∃ l, ansT (isBegin r) (.ok e pl su) = .int 1 :: l := by
        unfold ansT
        cases isBegin r <;> exact ⟨_, rfl⟩
      obtain ⟨l, hl⟩ := hh
      have ha2 : H ta = some (.tup (.int 1 :: l)) := by rw [ha1, hl]
      refine ⟨_, rfl, ta, _, _, _, rfl, rfl, SqT.of ha2, at0, rfl, _, rfl, iteF ?_⟩
      refine ⟨_, rfl, ta, _, _, _, rfl, rfl, SqT.of ha2, at0, rfl, _, rfl, iteT ?_⟩
      refine ⟨_, rfl, p, dx, _, rfl, h1, wf_no _ _ _ _ _ _ _ _ _ (by decide +kernel), _, rfl, _, rfl, ?_⟩
      exact ⟨p, nn, gl, tr, ta, x, r, e, pl, su, rfl, L, hok, hao, hr1, ha1, k⟩
end
end Sw

namespace Sw
open PySem PySem.Spec PyProof.Rows L2
/-! ### markers, and what a reader sees -/
def spStands (C : Addr) : Sp := fun vs H Q _ => ∃ (p r : Addr) (x : Hs08.Log), vs = [.ref p] ∧ LogAt C H p r x ∧ x.recs.length < 1000000 ∧
  ∀ (H' : Hp), LogAt C H' p r { x with recs := x.recs ++ [.commit] } → Kp [p, r] H H' → Q .non H'
def spGoes (C : Addr) : Sp := fun vs H Q _ => ∃ (p r : Addr) (x : Hs08.Log) (e : Nat), vs = [.ref p, vn e] ∧ LogAt C H p r x ∧ x.recs.length < 1000000 ∧
  ∀ (H' : Hp), LogAt C H' p r ⟨x.recs ++ [.abort], e, 0⟩ → Kp [p, r] H H' → Q .non H'
def spSeen (C : Addr) : Sp := fun vs H Q _ => ∃ (p r : Addr) (x : Hs08.Log), vs = [.ref p] ∧ LogAt C H p r x ∧ x.recs.length < 1000000 ∧
  ∀ (H' : Hp) (q : Addr), H q = none → H' q = some (.lst ((Hs08.stands x.recs [] []).map vn)) → (Hs08.stands x.recs [] []).length ≤ x.recs.length → Same H H' → Q (.ref q) H'
/-- a record more -/
theorem LogAt.snoc {C p r t dx : Addr} {H : Hp} {ts : List Addr} {x : Hs08.Log} {u : Hs08.Rec} (h1 : H p = some (.ins C dx (lf r x.epoch x.seq))) (h2 : H r = some (.lst (ts.map V.ref))) (h3 : Tups H ts (x.recs.map recT)) (npr : p ≠ r) (ht : H t = none) :
    LogAt C (upd (upd H t (.tup (recT u))) r (.lst (ts.map V.ref ++ [.ref t]))) p r { x with recs := x.recs ++ [u] } ∧ Kp [p, r] H (upd (upd H t (.tup (recT u))) r (.lst (ts.map V.ref ++ [.ref t]))) := by
  have ntp : p ≠ t := ne_of_none h1 ht
  have ntr : r ≠ t := ne_of_none h2 ht
  have k1 : Kp [p, r] H (upd H t (.tup (recT u))) := Kp.new ht
  have k2 := k1.trans (Kp.upd (p := r) (o := .lst (ts.map V.ref)) (u := .lst (ts.map V.ref ++ [.ref t])) (by simp) (by rw [upd_ne ntr]; exact h2) (by intro xs z; cases z))
  refine ⟨⟨dx, ts ++ [t], ?_, ?_, ?_⟩, k2⟩
  · rw [upd_ne npr, upd_ne ntp]; exact h1
  · rw [upd_same, List.map_append]; rfl
  · rw [List.map_append]
    exact Tups.snoc (h3.keep k2.tups) (by rw [upd_ne ntr.symm, upd_same])
section
variable {P : Program} {w : World} {K : PySem.W.Frag} {mg : Str → Option Value} {base : Heap} {CT CK CL CW CJ : Addr}
theorem ok_write_stands (T : Txt K mg CT CK CL CW CJ) : MOk P w K mg base CL "write_stands" 1 ["self"] (spStands CL) := by
  obtain ⟨f, fd, M, F, B⟩ := T.m_Log_write_stands.ex
  refine ⟨f, fd, M, B, F.ok c_Log_write_stands (fun vs H Q E h => ?_) (fun cdv A outer s H vs Q E hr h => ?_)⟩
  · obtain ⟨p, r, x, rfl, _⟩ := h
    rfl
  · obtain ⟨p, r, x, rfl, L, hlen, k⟩ := h
    have npr := L.ne
    obtain ⟨dx, ts, h1, h2, h3⟩ := L.ex
    refine ⟨_, (pss_one (ps_expr (pe_bm PySem.F.plainAttrs_list PySem.F.slot_list_append PySem.F.type_list_append mt_append (pe_fld (pv 0) rfl) (pa_cons (pe_tup (pa_cons (pe_num rfl T.k_STANDS_RECORD) pa_nil)) pa_nil)))), ?_⟩
    refine ⟨_, rfl, p, CL, dx, _, _, rfl, h1, T.Log.cl, T.n_Log_records, lf_records _ _ _, .inl ⟨rfl, _, SqL.of h2⟩, ?_⟩
    refine ⟨by show 1 ≤ sizeLine; decide, fun t ht => ?_⟩
    have ntr : r ≠ t := ne_of_none h2 ht
    refine ⟨r, _, _, rfl, rfl, by rw [upd_ne ntr]; exact h2, ?_, ?_⟩
    · rw [List.length_map, h3.len, List.length_map]
      exact Nat.lt_of_lt_of_le hlen (by decide)
    · obtain ⟨L1, k1⟩ := LogAt.snoc (u := .commit) h1 h2 h3 npr ht
      exact k _ L1 k1
theorem ok_write_goes (T : Txt K mg CT CK CL CW CJ) : MOk P w K mg base CL "write_goes" 1 ["self", "epoch"] (spGoes CL) := by
  obtain ⟨f, fd, M, F, B⟩ := T.m_Log_write_goes.ex
  refine ⟨f, fd, M, B, F.ok c_Log_write_goes (fun vs H Q E h => ?_) (fun cdv A outer s H vs Q E hr h => ?_)⟩
  · obtain ⟨p, r, x, e, rfl, _⟩ := h
    rfl
  · obtain ⟨p, r, x, e, rfl, L, hlen, k⟩ := h
    have npr := L.ne
    obtain ⟨dx, ts, h1, h2, h3⟩ := L.ex
    refine ⟨_, (pss_cons (ps_expr (pe_bm PySem.F.plainAttrs_list PySem.F.slot_list_append PySem.F.type_list_append mt_append (pe_fld (pv 0) rfl) (pa_cons (pe_tup (pa_cons (pe_num rfl T.k_GOES_RECORD) pa_nil)) pa_nil)))
      (pss_cons (ps_fld (pv 0) (pv 1) rfl)
      (pss_one (ps_fld (pv 0) pe_int rfl)))), ?_⟩
    refine ⟨_, rfl, p, CL, dx, _, _, rfl, h1, T.Log.cl, T.n_Log_records, lf_records _ _ _, .inl ⟨rfl, _, SqL.of h2⟩, ?_⟩
    refine ⟨by show 1 ≤ sizeLine; decide, fun t ht => ?_⟩
    have ntr : r ≠ t := ne_of_none h2 ht
    refine ⟨r, _, _, rfl, rfl, by rw [upd_ne ntr]; exact h2, ?_, ?_⟩
    · rw [List.length_map, h3.len, List.length_map]
      exact Nat.lt_of_lt_of_le hlen (by decide)
    · obtain ⟨L1, k1⟩ := LogAt.snoc (u := .abort) h1 h2 h3 npr ht
      have e1 : upd (upd H t (.tup [.int 3])) r (.lst (ts.map V.ref ++ [.ref t])) = upd (upd H t (.tup (recT .abort))) r (.lst (ts.map V.ref ++ [.ref t])) := rfl
      show tSeq _ _ _ _ _
      generalize upd (upd H t (.tup [.int 3])) r (.lst (ts.map V.ref ++ [.ref t])) = H1 at e1 ⊢
      rw [← e1] at L1 k1
      obtain ⟨dx1, ts1, g1, g2, g3⟩ := L1.ex
      refine ⟨_, rfl, _, rfl, p, CL, dx1, _, rfl, g1, T.Log.cl, T.n_Log_epoch, by show 3 < 1000; decide, ?_⟩
      refine ⟨_, rfl, p, CL, dx1, _, rfl, upd_same, T.Log.cl, T.n_Log_last_number, by show 3 < 1000; decide, ?_⟩
      rw [upd_upd]
      have k2 : Kp [p, r] H1 (upd H1 p (.ins CL dx1 (lf r e 0))) := Kp.upd (by simp) g1 (by intro xs z; cases z)
      exact k _ ⟨dx1, ts1, upd_same, by rw [upd_ne npr.symm]; exact g2, g3.keep k2.tups⟩ (k1.trans k2)
theorem rec_at {x : Hs08.Log} {H : Hp} {ts : List Addr} {i : Nat} {y : V} (h3 : Tups H ts (x.recs.map recT)) (hi : (ts.map V.ref)[i]? = some y) : ∃ t u, y = .ref t ∧ x.recs[i]? = some u ∧ H t = some (.tup (recT u)) := by
  rw [List.getElem?_map] at hi
  cases e : ts[i]? with
  | none => rw [e] at hi; cases hi
  | some t =>
    rw [e] at hi
    have hl := h3.len
    rw [List.length_map] at hl
    have hit : i < ts.length := (List.getElem?_eq_some_iff.mp e).1
    obtain ⟨u, hu⟩ : ∃ u, x.recs[i]? = some u := ⟨_, List.getElem?_eq_getElem (by omega)⟩
    exact ⟨t, u, (Option.some.inj hi).symm, hu, h3.at_ i t _ e (by rw [List.getElem?_map, hu]; rfl)⟩
theorem drop_at {α : Type} {l : List α} {i : Nat} {x : α} (h : l[i]? = some x) : l.drop i = x :: l.drop (i + 1) := by
  obtain ⟨hl, e⟩ := List.getElem?_eq_some_iff.mp h
  rw [List.drop_eq_getElem_cons hl, e]
theorem ok_seen_sums (T : Txt K mg CT CK CL CW CJ) : MOk P w K mg base CL "seen_sums" 1 ["self"] (spSeen CL) := by
  obtain ⟨f, fd, M, F, B⟩ := T.m_Log_seen_sums.ex
  refine ⟨f, fd, M, B, F.ok c_Log_seen_sums (fun vs H Q E h => ?_) (fun cdv A outer s H vs Q E hr h => ?_)⟩
  · obtain ⟨p, r, x, rfl, _⟩ := h
    rfl
  · obtain ⟨p, r, x, rfl, L, hlen, k⟩ := h
    have nd := c_Log_seen_sums.nd
    obtain ⟨dx, ts, h1, h2, h3⟩ := L.ex
    have hl := h3.len
    rw [List.length_map] at hl
    refine ⟨_, (pss_cons (ps_set (i := 1) nd rfl (Or.inl rfl) (pe_lst pa_nil))
      (pss_cons (ps_set (i := 2) nd rfl (Or.inl rfl) (pe_lst pa_nil))
      (pss_cons (ps_for PassesOwn.never rfl (pi_list (pe_fld (pv 0) rfl)) (pg_name (i := 3) nd rfl (Or.inl rfl)) (pss_one (ps_if (pt_cmpR op_eq (pe_ix ix_tup (pv 3) pe_int (fun _ _ => rfl)) (pe_num rfl T.k_DATA_RECORD) (nomark _)) (pss_one (ps_expr (pe_bm PySem.F.plainAttrs_list PySem.F.slot_list_append PySem.F.type_list_append mt_append (pv 2) (pa_cons (pe_ix ix_tup (pv 3) pe_int (fun _ _ => rfl)) pa_nil)))) (pss_cons (ps_if (pt_cmpR op_eq (pe_ix ix_tup (pv 3) pe_int (fun _ _ => rfl)) (pe_num rfl T.k_STANDS_RECORD) (nomark _)) (pss_one (ps_expr (pe_bm PySem.F.plainAttrs_list PySem.F.slot_list_extend PySem.F.type_list_extend mt_extend (pv 1) (pa_cons (pv 2) pa_nil)))) pss_nil)
      (pss_one (ps_set (i := 2) nd rfl (Or.inl rfl) (pe_lst pa_nil)))))))
      (pss_one (ps_ret (pv 1)))))), ?_⟩
    refine ⟨Nat.zero_le _, fun se hse => ?_⟩
    refine ⟨Nat.zero_le _, fun un hun => ?_⟩
    have nsu : se ≠ un := ne_of_none upd_same hun
    have hun' : H un = none := by rw [← hun, upd_ne nsu.symm]
    have s0 : Same H (upd (upd H se (.lst [])) un (.lst [])) := fun b o hb => by rw [upd_ne (ne_of_none hb hun'), upd_ne (ne_of_none hb hse)]; exact hb
    refine ⟨_, rfl, p, CL, dx, _, _, rfl, s0 _ _ h1, T.Log.cl, T.n_Log_records, lf_records _ _ _, r, rfl, ⟨_, SqL.of (s0 _ _ h2)⟩, for_list (K := K) (a := r) (xs := ts.map V.ref)
      (fun i σ H' => ∃ (un : Addr) (v : Option V) (op sn : List Nat), σ = [some (.ref p), some (.ref se), some (.ref un), v] ∧ H un = none ∧ se ≠ un ∧ H' se = some (.lst (sn.map vn)) ∧ H' un = some (.lst (op.map vn)) ∧ Same H H' ∧ Hs08.stands (x.recs.drop i) op sn = Hs08.stands x.recs [] [] ∧ sn.length + op.length ≤ i)
      ⟨un, none, [], [], rfl, hun', nsu, by rw [upd_ne nsu, upd_same]; rfl, by rw [upd_same]; rfl, s0, rfl, Nat.le_refl _⟩ (fun i σ H' _ ⟨_, _, _, _, _, _, _, _, _, sm, _⟩ => SqL.of (sm _ _ h2)) ?_ ?_⟩
    · rintro i y σ H' hi ⟨un, v, op, sn, rfl, fu, nsu, gs, gu, sm, est, hsz⟩
      obtain ⟨t, u, rfl, hu, ht⟩ := rec_at h3 hi
      have hi2 : i < x.recs.length := (List.getElem?_eq_some_iff.mp hu).1
      have ht' := sm _ _ ht
      rw [drop_at hu] at est
      have hline : (16777216 : Nat) = sizeLine := rfl
      cases u with
      | data e v =>
        refine ⟨_, rfl, t, _, _, _, rfl, rfl, SqT.of ht', at0, rfl, _, rfl, iteT ?_⟩
        refine ⟨_, rfl, .inl ⟨rfl, _, SqL.of gu⟩, _, rfl, t, _, _, vn v, rfl, rfl, SqT.of ht', (by rfl), un, _, _, rfl, rfl, gu, ?_, ?_⟩
        · rw [List.length_map]; omega
        · refine ⟨un, _, op ++ [v], sn, rfl, fu, nsu, by rw [upd_ne nsu]; exact gs, by rw [upd_same, List.map_append]; rfl, fun b o hb => by rw [upd_ne (ne_of_none hb fu)]; exact sm _ _ hb, est, ?_⟩
          rw [List.length_append]; show sn.length + (op.length + 1) ≤ i + 1; omega
      | commit =>
        refine ⟨_, rfl, t, _, _, _, rfl, rfl, SqT.of ht', at0, rfl, _, rfl, iteF ?_⟩
        refine ⟨_, rfl, t, _, _, _, rfl, rfl, SqT.of ht', at0, rfl, _, rfl, iteT ?_⟩
        refine ⟨_, rfl, .inl ⟨rfl, _, SqL.of gs⟩, _, rfl, se, un, _, _, rfl, rfl, gs, gu, ?_, ?_⟩
        · rw [List.length_map, List.length_map]; omega
        · refine ⟨Nat.zero_le _, fun un' hn => ?_⟩
          have n1 : se ≠ un' := ne_of_none upd_same hn
          have sm1 : Same H (upd H' se (.lst (sn.map vn ++ op.map vn))) := fun b o hb => by rw [upd_ne (ne_of_none hb hse)]; exact sm _ _ hb
          have fn : H un' = none := by
            cases q : H un' with
            | none => rfl
            | some o => rw [sm1 _ _ q] at hn; cases hn
          refine ⟨un', _, [], sn ++ op, rfl, fn, n1, by rw [upd_ne n1, upd_same, List.map_append], by rw [upd_same]; rfl, fun b o hb => by rw [upd_ne (ne_of_none hb fn)]; exact sm1 _ _ hb, est, ?_⟩
          rw [List.length_append]; show sn.length + op.length + 0 ≤ i + 1; omega
      | abort =>
        refine ⟨_, rfl, t, _, _, _, rfl, rfl, SqT.of ht', at0, rfl, _, rfl, iteF ?_⟩
        refine ⟨_, rfl, t, _, _, _, rfl, rfl, SqT.of ht', at0, rfl, _, rfl, iteF ?_⟩
        refine ⟨Nat.zero_le _, fun un' hn => ?_⟩
        have n1 : se ≠ un' := ne_of_none gs hn
        have fn : H un' = none := by
          cases q : H un' with
          | none => rfl
          | some o => rw [sm _ _ q] at hn; cases hn
        refine ⟨un', _, [], sn, rfl, fn, n1, by rw [upd_ne n1]; exact gs, by rw [upd_same]; rfl, fun b o hb => by rw [upd_ne (ne_of_none hb fn)]; exact sm _ _ hb, est, ?_⟩
        show sn.length + 0 ≤ i + 1; omega
    · rintro σ H' ⟨un, v, op, sn, rfl, fu, nsu, gs, gu, sm, est, hsz⟩
      refine ⟨_, rfl, ?_⟩
      rw [List.length_map, hl, List.drop_length] at est
      rw [List.length_map, hl] at hsz
      have est' : sn = Hs08.stands x.recs [] [] := est
      rw [est'] at gs hsz
      exact k H' se hse gs (by omega) sm
end
end Sw

namespace Sw
open PySem PySem.Spec PyProof.Rows L2
/-! ### when a transaction is over -/
def awaits (s : Hs08.St) (j : Nat) : Bool := match s.tx with
  | none => false
  | some t => Hs08.lacks t j
def spAwaits (CK CT : Addr) : Sp := fun vs H Q _ => ∃ (p : Addr) (fp : List Addr) (s : Hs08.St) (j : Nat), vs = [.ref p, vn j] ∧ KeepAt CK CT H p fp s ∧ j < 2 ∧ Q (.bl (awaits s j)) H
def closed (s : Hs08.St) (t : Hs08.Tx) : Hs08.St := if t.state = 1 then { s with tx := none, ended := t.n, pos := t.pos, sum := t.sum } else { s with tx := none, ended := t.n }
def spClose (CK CT : Addr) : Sp := fun vs H Q _ => ∃ (p : Addr) (fp : List Addr) (s : Hs08.St) (x : Hs08.Tx), vs = [.ref p] ∧ KeepAt CK CT H p fp s ∧ s.tx = some x ∧
  ∀ (H' : Hp), KeepTo CK CT H H' p fp [] (closed s x) → Q .non H'
def marked (x : Hs08.Tx) (j : Nat) : Hs08.Tx := if j = 0 then { x with left0 := false } else { x with left1 := false }
def spNote (CK CT : Addr) : Sp := fun vs H Q _ => ∃ (p : Addr) (fp : List Addr) (s : Hs08.St) (x : Hs08.Tx) (j : Nat), vs = [.ref p, vn j] ∧ KeepAt CK CT H p fp s ∧ s.tx = some x ∧ j < 2 ∧
  ∀ (H' : Hp) (fp' : List Addr), KeepTo CK CT H H' p fp fp' (Hs08.over s (marked x j)) → Q .non H'
theorem lack (x : Hs08.Tx) {j : Nat} (h : j < 2) : [V.bl x.left0, V.bl x.left1][j]? = some (.bl (Hs08.lacks x j)) := by
  match j, h with
  | 0, _ => rfl
  | 1, _ => rfl
theorem marked_set (x : Hs08.Tx) {j : Nat} (h : j < 2) : ([V.bl x.left0, V.bl x.left1]).set j (.bl false) = [V.bl (marked x j).left0, V.bl (marked x j).left1] := by
  match j, h with
  | 0, _ => rfl
  | 1, _ => rfl
theorem marked_same (x : Hs08.Tx) (j : Nat) : (marked x j).n = x.n ∧ (marked x j).state = x.state ∧ (marked x j).pos = x.pos ∧ (marked x j).sum = x.sum ∧ (marked x j).log0 = x.log0 ∧ (marked x j).log1 = x.log1 := by
  unfold marked
  split <;> exact ⟨rfl, rfl, rfl, rfl, rfl, rfl⟩
theorem TxAt.marked {C t hs lk : Addr} {H : Hp} {x : Hs08.Tx} {j : Nat} (L : TxAt C H t hs lk x) (hj : j < 2) : TxAt C (upd H lk (.lst ([V.bl x.left0, V.bl x.left1].set j (.bl false)))) t hs lk (Sw.marked x j) := by
  obtain ⟨dx, h1⟩ := L.ex
  obtain ⟨e1, e2, e3, e4, e5, e6⟩ := marked_same x j
  refine ⟨L.ne, ⟨dx, ?_⟩, ?_, ?_⟩
  · rw [upd_ne L.nl, e1, e2, e3, e4]; exact h1
  · rw [upd_ne L.ne, e5, e6]; exact L.h
  · rw [upd_same, marked_set x hj]
theorem inV_two (a b : Bool) : (!inV (.bl true) [V.bl a, V.bl b]) = true ↔ ¬ (a = true ∨ b = true) := by
  cases a <;> cases b <;> decide
section
variable {P : Program} {w : World} {K : PySem.W.Frag} {mg : Str → Option Value} {base : Heap} {CT CK CL CW CJ : Addr}
theorem ok_awaits_marker (T : Txt K mg CT CK CL CW CJ) : MOk P w K mg base CK "awaits_marker" 1 ["self", "j"] (spAwaits CK CT) := by
  obtain ⟨f, fd, M, F, B⟩ := T.m_Keeper_awaits_marker.ex
  refine ⟨f, fd, M, B, F.ok c_Keeper_awaits_marker (fun vs H Q E h => ?_) (fun cdv A outer s H vs Q E hr h => ?_)⟩
  · obtain ⟨p, fp, s, j, rfl, _⟩ := h
    rfl
  · obtain ⟨p, fp, s, j, rfl, L, hj, k⟩ := h
    obtain ⟨dx, v, h1, h2⟩ := L.ex
    refine ⟨_, (pss_one (ps_ret (pe_and (pe_cmpR op_notN (pe_fld (pv 0) rfl) pe_non (nomark _)) (pe_one (pe_ix ix_list (pe_fld (pe_fld (pv 0) rfl) rfl) (pv 1) (fun _ _ => rfl)))))), ?_⟩
    refine ⟨_, rfl, p, CK, dx, _, _, rfl, h1, T.Keeper.cl, T.n_Keeper_transaction, kf_tx _ _ _ _ _, rfl, _, rfl, ?_⟩
    cases hx : s.tx with
    | none =>
      rw [hx] at h2
      obtain ⟨rfl, rfl⟩ := h2
      refine iteF ?_
      have e : awaits s j = false := by unfold awaits; rw [hx]
      rw [e] at k
      exact k
    | some x =>
      rw [hx] at h2
      obtain ⟨t, hs, lk, rfl, rfl, X⟩ := h2
      obtain ⟨dt, ht⟩ := X.ex
      refine iteT ?_
      have e : awaits s j = Hs08.lacks x j := by unfold awaits; rw [hx]
      rw [e] at k
      exact ⟨_, rfl, p, CK, dx, _, _, rfl, h1, T.Keeper.cl, T.n_Keeper_transaction, kf_tx _ _ _ _ _, t, CT, dt, _, _, rfl, ht, T.Transaction.cl, T.n_Transaction_lacks_marker, tf_lacks _ _ _ _ _ _, _, rfl, lk, _, _, _, rfl, rfl, SqL.of X.l, atI_nat (lack x hj), k⟩
theorem ok_close (T : Txt K mg CT CK CL CW CJ) : MOk P w K mg base CK "close" 1 ["self"] (spClose CK CT) := by
  obtain ⟨f, fd, M, F, B⟩ := T.m_Keeper_close.ex
  refine ⟨f, fd, M, B, F.ok c_Keeper_close (fun vs H Q E h => ?_) (fun cdv A outer s H vs Q E hr h => ?_)⟩
  · obtain ⟨p, fp, s, x, rfl, _⟩ := h
    rfl
  · obtain ⟨p, fp, s, x, rfl, L, hx, k⟩ := h
    obtain ⟨dx, v, h1, h2⟩ := L.ex
    rw [hx] at h2
    obtain ⟨t, hs, lk, rfl, rfl, X⟩ := h2
    obtain ⟨dt, ht⟩ := X.ex
    have npt : p ≠ t := ne_of h1 ht kf_ne_tf
    refine ⟨_, (pss_cons (ps_if (pt_cmpR op_eq (pe_fld (pe_fld (pv 0) rfl) rfl) (pe_num rfl T.k_TO_STAND) (nomark _)) (pss_cons (ps_fld (pv 0) (pe_fld (pe_fld (pv 0) rfl) rfl) rfl)
      (pss_one (ps_fld (pv 0) (pe_fld (pe_fld (pv 0) rfl) rfl) rfl))) pss_nil)
      (pss_cons (ps_fld (pv 0) (pe_fld (pe_fld (pv 0) rfl) rfl) rfl)
      (pss_one (ps_fld (pv 0) pe_non rfl)))), ?_⟩
    -- what is left to do from some place and sum
    have rest : ∀ (a b : Nat), closed s x = { s with tx := none, ended := x.n, pos := a, sum := b } → KeepTo CK CT H (upd H p (.ins CK dx (kf s.epoch x.n a b .non))) p [t, hs, lk] [] (closed s x) := fun a b e => by
      rw [e]
      exact ⟨⟨dx, .non, upd_same, rfl, rfl⟩, by simp, Kp.upd (by simp) h1 (by intro xs z; cases z)⟩
    refine ⟨_, rfl, p, CK, dx, _, _, rfl, h1, T.Keeper.cl, T.n_Keeper_transaction, kf_tx _ _ _ _ _, t, CT, dt, _, _, rfl, ht, T.Transaction.cl, T.n_Transaction_state, tf_state _ _ _ _ _ _, rfl, _, rfl, ite2 (fun c => ?_) (fun c => ?_)⟩
    · have c' : x.state = 1 := vn_inj.mp (of_decide_eq_true c)
      have ec : closed s x = { s with tx := none, ended := x.n, pos := x.pos, sum := x.sum } := by unfold closed; rw [if_pos c']
      refine ⟨_, rfl, p, CK, dx, _, _, rfl, h1, T.Keeper.cl, T.n_Keeper_transaction, kf_tx _ _ _ _ _, t, CT, dt, _, _, rfl, ht, T.Transaction.cl, T.n_Transaction_place, tf_place _ _ _ _ _ _, _, rfl, p, CK, dx, _, rfl, h1, T.Keeper.cl, T.n_Keeper_place, by show 5 < 1000; decide, ?_⟩
      refine ⟨_, rfl, p, CK, dx, _, _, rfl, upd_same, T.Keeper.cl, T.n_Keeper_transaction, rfl, t, CT, dt, _, _, rfl, by rw [upd_ne npt.symm]; exact ht, T.Transaction.cl, T.n_Transaction_total, tf_total _ _ _ _ _ _, _, rfl, p, CK, dx, _, rfl, upd_same, T.Keeper.cl, T.n_Keeper_total, by show 5 < 1000; decide, ?_⟩
      rw [upd_upd]
      refine ⟨_, rfl, p, CK, dx, _, _, rfl, upd_same, T.Keeper.cl, T.n_Keeper_transaction, rfl, t, CT, dt, _, _, rfl, by rw [upd_ne npt.symm]; exact ht, T.Transaction.cl, T.n_Transaction_number, tf_number _ _ _ _ _ _, _, rfl, p, CK, dx, _, rfl, upd_same, T.Keeper.cl, T.n_Keeper_last_ended, by show 5 < 1000; decide, ?_⟩
      rw [upd_upd]
      refine ⟨_, rfl, p, CK, dx, _, rfl, upd_same, T.Keeper.cl, T.n_Keeper_transaction, by show 5 < 1000; decide, ?_⟩
      rw [upd_upd]
      exact k _ (rest _ _ ec)
    · have c' : ¬ x.state = 1 := fun z => c (decide_eq_true (vn_inj (b := 1) |>.mpr z))
      have ec : closed s x = { s with tx := none, ended := x.n, pos := s.pos, sum := s.sum } := by unfold closed; rw [if_neg c']
      refine ⟨_, rfl, p, CK, dx, _, _, rfl, h1, T.Keeper.cl, T.n_Keeper_transaction, kf_tx _ _ _ _ _, t, CT, dt, _, _, rfl, ht, T.Transaction.cl, T.n_Transaction_number, tf_number _ _ _ _ _ _, _, rfl, p, CK, dx, _, rfl, h1, T.Keeper.cl, T.n_Keeper_last_ended, by show 5 < 1000; decide, ?_⟩
      refine ⟨_, rfl, p, CK, dx, _, rfl, upd_same, T.Keeper.cl, T.n_Keeper_transaction, by show 5 < 1000; decide, ?_⟩
      rw [upd_upd]
      exact k _ (rest _ _ ec)
theorem ok_note_marker (T : Txt K mg CT CK CL CW CJ) : MOk P w K mg base CK "note_marker" 2 ["self", "j"] (spNote CK CT) := by
  obtain ⟨f, fd, M, F, B⟩ := T.m_Keeper_note_marker.ex
  obtain ⟨f1, fd1, M_close, B_close, G_close⟩ := ok_close (P := P) (w := w) (base := base) T
  refine ⟨f, fd, M, B, F.ok c_Keeper_note_marker (fun vs H Q E h => ?_) (fun cdv A outer s H vs Q E hr h => ?_)⟩
  · obtain ⟨p, fp, s, x, j, rfl, _⟩ := h
    rfl
  · obtain ⟨p, fp, s, x, j, rfl, L, hx, hj, k⟩ := h
    obtain ⟨dx, v, h1, h2⟩ := L.ex
    rw [hx] at h2
    obtain ⟨t, hs, lk, rfl, rfl, X⟩ := h2
    obtain ⟨dt, ht⟩ := X.ex
    have npt : p ≠ t := ne_of h1 ht kf_ne_tf
    have npl : p ≠ lk := ne_of h1 X.l (by intro z; cases z)
    refine ⟨_, (pss_cons (ps_asg pe_bl (pg_sub (pe_fld (pe_fld (pv 0) rfl) rfl) (pv 1) set_list))
      (pss_one (ps_if (pt_cmpR op_notIn_seq pe_bl (pe_fld (pe_fld (pv 0) rfl) rfl) (by with_unfolding_all rfl)) (pss_one (ps_expr (pe_meth0 (pv 0) T.Keeper.cl M_close G_close (hr.mono (by decide)) B_close .nil pass0))) pss_nil))), ?_⟩
    refine ⟨_, rfl, p, CK, dx, _, _, rfl, h1, T.Keeper.cl, T.n_Keeper_transaction, kf_tx _ _ _ _ _, t, CT, dt, _, _, rfl, ht, T.Transaction.cl, T.n_Transaction_lacks_marker, tf_lacks _ _ _ _ _ _, _, rfl, lk, _, _, j, rfl, rfl, X.l, ?_, ?_⟩
    · unfold ixN
      rw [if_pos (by omega), if_pos (by show (j : Int) < 2; omega)]; simp
    · have X1 := X.marked hj
      have k1 : Kp (p :: [t, hs, lk]) H (upd H lk (.lst ([V.bl x.left0, V.bl x.left1].set j (.bl false)))) := Kp.upd (by simp) X.l (by intro xs z; cases z)
      have hp1 : (upd H lk (.lst ([V.bl x.left0, V.bl x.left1].set j (.bl false)))) p = some (.ins CK dx (kf s.epoch s.ended s.pos s.sum (.ref t))) := by rw [upd_ne npl]; exact h1
      generalize upd H lk (.lst ([V.bl x.left0, V.bl x.left1].set j (.bl false))) = H1 at X1 k1 hp1 ⊢
      obtain ⟨dt1, ht1⟩ := X1.ex
      have L1 : KeepAt CK CT H1 p [t, hs, lk] { s with tx := some (marked x j) } := ⟨dx, .ref t, hp1, t, hs, lk, rfl, rfl, X1⟩
      refine ⟨_, rfl, p, CK, dx, _, _, rfl, hp1, T.Keeper.cl, T.n_Keeper_transaction, kf_tx _ _ _ _ _, t, CT, dt1, _, _, rfl, ht1, T.Transaction.cl, T.n_Transaction_lacks_marker, tf_lacks _ _ _ _ _ _, lk, _, rfl, .inl (SqL.of X1.l), rfl, rfl, _, rfl, ite2 (fun c => ?_) (fun c => ?_)⟩
      · have c' : ¬ ((marked x j).left0 = true ∨ (marked x j).left1 = true) := (inV_two _ _).mp c
        have eo : Hs08.over s (marked x j) = closed { s with tx := some (marked x j) } (marked x j) := by
          unfold Hs08.over closed
          rw [if_neg c']
        rw [eo] at k
        refine ⟨_, rfl, p, dx, _, rfl, hp1, rfl, p, _, _, marked x j, rfl, L1, rfl, fun H2 R => ?_⟩
        exact k H2 [] ⟨R.at_, by simp, k1.trans R.kp⟩
      · have c' : (marked x j).left0 = true ∨ (marked x j).left1 = true := Decidable.not_not.mp fun z => c ((inV_two _ _).mpr z)
        have eo : Hs08.over s (marked x j) = { s with tx := some (marked x j) } := by
          unfold Hs08.over
          rw [if_pos c']
        rw [eo] at k
        exact k H1 _ ⟨L1, fun b hb => .inl hb, k1⟩
end
end Sw

namespace Sw
open PySem PySem.Spec PyProof.Rows L2
/-! ### the job: its parts stand apart -/
inductive Part where
  | job | nu | lo | ke | lg (j : Nat) | wo | wk (i : Nat) | ai
  deriving DecidableEq
structure Ad where
  dj : Addr
  nu : Addr
  lo : Addr
  ke : Addr
  wo : Addr
  ai : Addr
  fp : List Addr
  l : Nat → Addr
  r : Nat → Addr
  w : Nat → Addr
  n : Nat → Addr
  g : Nat → Addr
structure Cs where
  T : Addr
  K : Addr
  L : Addr
  W : Addr
  J : Addr
def jf (b : Nat) (nu lo ke wo ai : Addr) : List (Str × V) := [("batch", vn b), ("numbers", .ref nu), ("logs", .ref lo), ("keeper", .ref ke), ("workers", .ref wo), ("air", .ref ai)]
section
variable (b : Nat) (nu lo ke wo ai : Addr)
theorem jf_batch : (jf b nu lo ke wo ai).lookup ("batch" : Str) = some (vn b) := by rfl
theorem jf_numbers : (jf b nu lo ke wo ai).lookup ("numbers" : Str) = some (.ref nu) := by rfl
theorem jf_logs : (jf b nu lo ke wo ai).lookup ("logs" : Str) = some (.ref lo) := by rfl
theorem jf_keeper : (jf b nu lo ke wo ai).lookup ("keeper" : Str) = some (.ref ke) := by rfl
theorem jf_workers : (jf b nu lo ke wo ai).lookup ("workers" : Str) = some (.ref wo) := by rfl
theorem jf_air : (jf b nu lo ke wo ai).lookup ("air" : Str) = some (.ref ai) := by rfl
theorem jf_serve : (jf b nu lo ke wo ai).lookup ("serve" : Str) = none := by rfl
theorem jf_begin : (jf b nu lo ke wo ai).lookup ("begin" : Str) = none := by rfl
end
/-- a request in the air as its tuple -/
def airT (r : Hs08.Req) : List V := (Hs08.reqTold r).map vn
abbrev Col := Addr → Option Part
def Comp (C : Cs) (col : Col) (A : Ad) (H : Hp) (a : Addr) (s : Hs08.St) : Part → Prop
  | .job => H a = some (.ins C.J A.dj (jf s.batch A.nu A.lo A.ke A.wo A.ai)) ∧ col a = some .job
  | .nu => H A.nu = some (.lst (s.input.map vn)) ∧ col A.nu = some .nu
  | .lo => H A.lo = some (.lst [.ref (A.l 0), .ref (A.l 1)]) ∧ col A.lo = some .lo
  | .ke => KeepAt C.K C.T H A.ke A.fp s ∧ col A.ke = some .ke ∧ ∀ b ∈ A.fp, col b = some .ke
  | .lg j => j < 2 → LogAt C.L H (A.l j) (A.r j) (Hs08.log s j) ∧ col (A.l j) = some (.lg j) ∧ col (A.r j) = some (.lg j)
  | .wo => H A.wo = some (.lst [.ref (A.w 0), .ref (A.w 1), .ref (A.w 2)]) ∧ col A.wo = some .wo
  | .wk i => i < 3 → WkAt C.W H (A.w i) (A.n i) (A.g i) (Hs08.worker s i) ∧ col (A.w i) = some (.wk i) ∧ col (A.n i) = some (.wk i) ∧ col (A.g i) = some (.wk i)
  | .ai => (∃ ts, H A.ai = some (.lst (ts.map V.ref)) ∧ Tups H ts (s.air.map airT)) ∧ col A.ai = some .ai
/-- the states agree in a part -/
def SameS (s s' : Hs08.St) : Part → Prop
  | .job => s'.batch = s.batch
  | .nu => s'.input = s.input
  | .lo => True
  | .ke => s'.epoch = s.epoch ∧ s'.ended = s.ended ∧ s'.tx = s.tx ∧ s'.pos = s.pos ∧ s'.sum = s.sum
  | .lg j => j < 2 → Hs08.log s' j = Hs08.log s j
  | .wo => True
  | .wk i => i < 3 → Hs08.worker s' i = Hs08.worker s i
  | .ai => s'.air = s.air
def SameA (A A' : Ad) : Part → Prop
  | .job => A'.dj = A.dj ∧ A'.nu = A.nu ∧ A'.lo = A.lo ∧ A'.ke = A.ke ∧ A'.wo = A.wo ∧ A'.ai = A.ai
  | .nu => A'.nu = A.nu
  | .lo => A'.lo = A.lo ∧ A'.l = A.l
  | .ke => A'.ke = A.ke ∧ A'.fp = A.fp
  | .lg j => A'.l j = A.l j ∧ A'.r j = A.r j
  | .wo => A'.wo = A.wo ∧ A'.w = A.w
  | .wk i => A'.w i = A.w i ∧ A'.n i = A.n i ∧ A'.g i = A.g i
  | .ai => A'.ai = A.ai
/-- what has a place keeps its colour -/
def Ext (H : Hp) (col col' : Col) : Prop := ∀ b, H b ≠ none → col' b = col b
theorem Ext.refl (H : Hp) (col : Col) : Ext H col col := fun _ _ => rfl
theorem Comp.keep {C : Cs} {col col' : Col} {A A' : Ad} {H H' : Hp} {a : Addr} {s s' : Hs08.St} {c : Part} {S : List Addr} (h : Comp C col A H a s c) (k : Kp S H H') (hS : ∀ b ∈ S, col b ≠ some c) (x : Ext H col col') (es : SameS s s' c) (ea : SameA A A' c) : Comp C col' A' H' a s' c := by
  have nS : ∀ b, col b = some c → b ∉ S := fun b e m => hS b m e
  have xc : ∀ b o, H b = some o → col' b = col b := fun b o e => x b (by rw [e]; simp)
  cases c with
  | job =>
    obtain ⟨h1, h2⟩ := h
    obtain ⟨e1, e2, e3, e4, e5, e6⟩ := ea
    refine ⟨?_, by rw [xc _ _ h1]; exact h2⟩
    rw [e1, e2, e3, e4, e5, e6, show s'.batch = s.batch from es]
    exact k.keep _ _ h1 (nS _ h2)
  | nu =>
    obtain ⟨h1, h2⟩ := h
    have ea' : A'.nu = A.nu := ea
    show H' A'.nu = some (.lst (s'.input.map vn)) ∧ col' A'.nu = some .nu
    rw [ea', show s'.input = s.input from es]
    exact ⟨k.keep _ _ h1 (nS _ h2), by rw [xc _ _ h1]; exact h2⟩
  | lo =>
    obtain ⟨h1, h2⟩ := h
    obtain ⟨e1, e2⟩ := ea
    show H' A'.lo = some (.lst [.ref (A'.l 0), .ref (A'.l 1)]) ∧ col' A'.lo = some .lo
    rw [e1, e2]
    exact ⟨k.keep _ _ h1 (nS _ h2), by rw [xc _ _ h1]; exact h2⟩
  | ke =>
    obtain ⟨h1, h2, h3⟩ := h
    obtain ⟨e1, e2⟩ := ea
    obtain ⟨q1, q2, q3, q4, q5⟩ := es
    show KeepAt C.K C.T H' A'.ke A'.fp s' ∧ col' A'.ke = some .ke ∧ ∀ b ∈ A'.fp, col' b = some .ke
    rw [e1, e2]
    obtain ⟨dx, v, a1, a2⟩ := h1.ex
    refine ⟨⟨dx, v, ?_, ?_⟩, by rw [xc _ _ a1]; exact h2, fun b hb => ?_⟩
    · rw [q1, q2, q4, q5]; exact k.keep _ _ a1 (nS _ h2)
    · rw [q3]; exact a2.keep k fun b hb => nS b (h3 b hb)
    · have hs : H b ≠ none := by
        cases hx : s.tx with
        | none =>
          rw [hx] at a2
          rw [a2.2] at hb
          cases hb
        | some x =>
          rw [hx] at a2
          obtain ⟨t, hs, lk, _, ef, X⟩ := a2
          rw [ef] at hb
          obtain ⟨dt, ht⟩ := X.ex
          simp only [List.mem_cons, List.not_mem_nil, or_false] at hb
          rcases hb with rfl | rfl | rfl
          · rw [ht]; simp
          · rw [X.h]; simp
          · rw [X.l]; simp
      rw [x b hs]
      exact h3 b hb
  | lg j =>
    intro hj
    obtain ⟨h1, h2, h3⟩ := h hj
    obtain ⟨e1, e2⟩ := ea
    have es' : Hs08.log s' j = Hs08.log s j := es hj
    rw [e1, e2, es']
    obtain ⟨dx, ts, a1, a2, a3⟩ := h1.ex
    exact ⟨h1.keep k (nS _ h2) (nS _ h3), by rw [xc _ _ a1]; exact h2, by rw [xc _ _ a2]; exact h3⟩
  | wo =>
    obtain ⟨h1, h2⟩ := h
    obtain ⟨e1, e2⟩ := ea
    show H' A'.wo = some (.lst [.ref (A'.w 0), .ref (A'.w 1), .ref (A'.w 2)]) ∧ col' A'.wo = some .wo
    rw [e1, e2]
    exact ⟨k.keep _ _ h1 (nS _ h2), by rw [xc _ _ h1]; exact h2⟩
  | wk i =>
    intro hi
    obtain ⟨h1, h2, h3, h4⟩ := h hi
    obtain ⟨e1, e2, e3⟩ := ea
    have es' : Hs08.worker s' i = Hs08.worker s i := es hi
    rw [e1, e2, e3, es']
    obtain ⟨dx, a1⟩ := h1.ex
    obtain ⟨u, v, a2, _⟩ := h1.nx
    exact ⟨h1.keep k (nS _ h2) (nS _ h3) (nS _ h4), by rw [xc _ _ a1]; exact h2, by rw [xc _ _ a2]; exact h3, by rw [xc _ _ h1.gr]; exact h4⟩
  | ai =>
    obtain ⟨⟨ts, h1, h3⟩, h2⟩ := h
    have ea' : A'.ai = A.ai := ea
    have es' : s'.air = s.air := es
    show (∃ ts, H' A'.ai = some (.lst (ts.map V.ref)) ∧ Tups H' ts (s'.air.map airT)) ∧ col' A'.ai = some .ai
    rw [ea', es']
    exact ⟨⟨ts, k.keep _ _ h1 (nS _ h2), h3.keep k.tups⟩, by rw [xc _ _ h1]; exact h2⟩
/-- what is open lacks no marker -/
def OpOk (o : Option Hs08.Tx) : Prop := ∀ t, o = some t → t.state = 0 → t.left0 = false ∧ t.left1 = false
/-- what else is so of a state; N bounds its lengths -/
structure Sane (s : Hs08.St) (N : Nat) : Prop where
  len : s.workers.length = 3
  ba : 1 ≤ s.batch
  ok : ∀ r ∈ s.air, reqOk r
  szi : s.input.length ≤ N
  sza : s.air.length ≤ N
  szr : ∀ j, (Hs08.log s j).recs.length ≤ N
  op : OpOk s.tx
structure JobAt (C : Cs) (col : Col) (A : Ad) (H : Hp) (a : Addr) (s : Hs08.St) : Prop where
  all : ∀ c, Comp C col A H a s c
/-- what isn't the job's stands -/
structure JFr (col : Col) (H : Hp) (col' : Col) (H' : Hp) : Prop where
  keep : ∀ b o, H b = some o → col b = none → H' b = some o
  cn : ∀ b, H b ≠ none → col b = none → col' b = none
  tups : ∀ b xs, H b = some (.tup xs) → H' b = some (.tup xs)
theorem JFr.trans {c1 c2 c3 : Col} {H1 H2 H3 : Hp} (a : JFr c1 H1 c2 H2) (b : JFr c2 H2 c3 H3) : JFr c1 H1 c3 H3 :=
  ⟨fun x o h n => b.keep x o (a.keep x o h n) (a.cn x (by rw [h]; simp) n), fun x h n => by
    cases e : H1 x with
    | none => exact absurd e h
    | some o => exact b.cn x (by rw [a.keep x o e n]; simp) (a.cn x h n), fun x xs h => b.tups x xs (a.tups x xs h)⟩
theorem JFr.refl (col : Col) (H : Hp) : JFr col H col H := ⟨fun _ _ h _ => h, fun _ _ h => h, fun _ _ h => h⟩
theorem JFr.same {col : Col} {H H' : Hp} (s : Same H H') : JFr col H col H' := ⟨fun b o h _ => s b o h, fun _ _ h => h, fun b xs h => s b _ h⟩
theorem JFr.of {col col' : Col} {H H' : Hp} {S : List Addr} (k : Kp S H H') (hS : ∀ b ∈ S, col b ≠ none) (x : Ext H col col') : JFr col H col' H' :=
  ⟨fun b o h n => k.keep b o h fun m => hS b m n, fun b h n => by rw [x b h]; exact n, k.tups⟩
/-- one part is changed -/
theorem JobAt.change {C : Cs} {col col' : Col} {A A' : Ad} {H H' : Hp} {a : Addr} {s s' : Hs08.St} {S : List Addr} (d : Part) (J : JobAt C col A H a s) (k : Kp S H H') (hS : ∀ b ∈ S, col b = some d) (x : Ext H col col')
    (e : ∀ c, c ≠ d → SameS s s' c ∧ SameA A A' c) (n : Comp C col' A' H' a s' d) : JobAt C col' A' H' a s' := ⟨fun c => by
  by_cases h : c = d
  · rw [h]; exact n
  · exact (J.all c).keep k (fun b hb z => h (by rw [hS b hb] at z; exact (Option.some.inj z).symm)) x (e c h).1 (e c h).2⟩
/-- nothing of it is changed -/
theorem JobAt.keep {C : Cs} {col col' : Col} {A : Ad} {H H' : Hp} {a : Addr} {s : Hs08.St} {S : List Addr} (J : JobAt C col A H a s) (k : Kp S H H') (hS : ∀ b ∈ S, col b = none) (x : Ext H col col') : JobAt C col' A H' a s := ⟨fun c =>
  (J.all c).keep k (fun b hb z => by rw [hS b hb] at z; cases z) x (by cases c <;> first | rfl | trivial | exact fun _ => rfl | exact ⟨rfl, rfl, rfl, rfl, rfl⟩) (by cases c <;> first | rfl | exact ⟨rfl, rfl⟩ | exact ⟨rfl, rfl, rfl⟩ | exact ⟨rfl, rfl, rfl, rfl, rfl, rfl⟩)⟩
theorem sameS_refl (s : Hs08.St) (c : Part) : SameS s s c := by cases c <;> first | rfl | trivial | exact fun _ => rfl | exact ⟨rfl, rfl, rfl, rfl, rfl⟩
theorem sameA_refl (A : Ad) (c : Part) : SameA A A c := by cases c <;> first | rfl | exact ⟨rfl, rfl⟩ | exact ⟨rfl, rfl, rfl⟩ | exact ⟨rfl, rfl, rfl, rfl, rfl, rfl⟩
/-- new places are coloured -/
def paint (col : Col) (ps : List Addr) (c : Option Part) : Col := fun b => if b ∈ ps then c else col b
theorem paint_in {col : Col} {ps : List Addr} {c : Option Part} {b : Addr} (h : b ∈ ps) : paint col ps c b = c := by unfold paint; rw [if_pos h]
theorem paint_out {col : Col} {ps : List Addr} {c : Option Part} {b : Addr} (h : b ∉ ps) : paint col ps c b = col b := by unfold paint; rw [if_neg h]
/-- they are new, or have this colour -/
theorem ext_paint {col : Col} {H : Hp} {ps : List Addr} {c : Option Part} (h : ∀ b ∈ ps, H b = none ∨ col b = c) : Ext H col (paint col ps c) := fun b hb => by
  by_cases m : b ∈ ps
  · rw [paint_in m]
    rcases h b m with z | z
    · exact absurd z hb
    · exact z.symm
  · exact paint_out m
end Sw

namespace Sw
open PySem PySem.Spec PyProof.Rows L2
/-! ### a request is served -/
theorem serves_begin (s : Hs08.St) (c : Part) (h : c ≠ .ke) : SameS s (Hs08.serves s .begin_).1 c := by
  unfold Hs08.serves
  dsimp only
  split
  · cases c <;> first | rfl | trivial | exact fun _ => rfl | exact absurd rfl h
  · split <;> (cases c <;> first | rfl | trivial | exact fun _ => rfl | exact absurd rfl h)
theorem serves_log (s : Hs08.St) (e n j : Nat) (c : Part) (h : c ≠ .ke) : SameS s (Hs08.serves s (.log e n j)).1 c := by
  unfold Hs08.serves
  dsimp only
  split
  · exact sameS_refl s c
  · split
    · split <;> (cases c <;> first | rfl | trivial | exact fun _ => rfl | exact absurd rfl h)
    · split
      · exact sameS_refl s c
      · split <;> (cases c <;> first | rfl | trivial | exact fun _ => rfl | exact absurd rfl h)
theorem serves_commit (s : Hs08.St) (e n p q : Nat) (c : Part) (h : c ≠ .ke) : SameS s (Hs08.serves s (.commit e n p q)).1 c := by
  unfold Hs08.serves
  dsimp only
  split
  · exact sameS_refl s c
  · split
    · exact sameS_refl s c
    · split <;> (cases c <;> first | rfl | trivial | exact fun _ => rfl | exact absurd rfl h)
theorem setLog_self (s : Hs08.St) (j : Nat) : Hs08.setLog s j (Hs08.log s j) = s := by
  unfold Hs08.setLog Hs08.log
  split <;> rfl
theorem serves_add (s : Hs08.St) (e n j q v : Nat) : Hs08.serves s (.add e n j q v) = (Hs08.setLog s j (addL (Hs08.log s j) e q v).1, (addL (Hs08.log s j) e q v).2) := by
  unfold Hs08.serves addL
  dsimp only
  by_cases h1 : e < (Hs08.log s j).epoch
  · rw [if_pos h1, if_pos h1, setLog_self]
  · rw [if_neg h1, if_neg h1]
    by_cases h2 : q ≤ (if e = (Hs08.log s j).epoch then (Hs08.log s j).seq else 0)
    · rw [if_pos h2, if_pos h2, setLog_self]
    · rw [if_neg h2, if_neg h2]
      by_cases h3 : q = (if e = (Hs08.log s j).epoch then (Hs08.log s j).seq else 0) + 1
      · rw [if_pos h3, if_pos h3]
      · rw [if_neg h3, if_neg h3, setLog_self]
theorem log_setLog {s : Hs08.St} {j : Nat} {x : Hs08.Log} (h : j < 2) : Hs08.log (Hs08.setLog s j x) j = x := by
  match j, h with
  | 0, _ => rfl
  | 1, _ => rfl
theorem sameS_setLog (s : Hs08.St) {j : Nat} (hj : j < 2) (x : Hs08.Log) (c : Part) (h : c ≠ .lg j) : SameS s (Hs08.setLog s j x) c := by
  cases c with
  | lg i =>
    intro hi
    have hij : i ≠ j := fun z => h (by rw [z])
    match i, hi, j, hj with
    | 0, _, 0, _ => exact absurd rfl hij
    | 0, _, 1, _ => rfl
    | 1, _, 0, _ => rfl
    | 1, _, 1, _ => exact absurd rfl hij
  | _ =>
    unfold Hs08.setLog
    split <;> first | rfl | trivial | exact fun _ => rfl | exact ⟨rfl, rfl, rfl, rfl, rfl⟩
theorem addL_len (x : Hs08.Log) (e q v : Nat) : (addL x e q v).1.recs.length ≤ x.recs.length + 1 := by
  unfold addL
  generalize (if e = x.epoch then x.seq else 0) = la
  split
  · exact Nat.le_succ _
  · split
    · exact Nat.le_succ _
    · split
      · show (x.recs ++ [_]).length ≤ _
        rw [List.length_append]
        exact Nat.le_refl _
      · exact Nat.le_succ _
/-- what serving leaves as it is -/
theorem serves_rest (s : Hs08.St) (r : Hs08.Req) : (Hs08.serves s r).1.batch = s.batch ∧ (Hs08.serves s r).1.input = s.input ∧ (Hs08.serves s r).1.workers = s.workers ∧ (Hs08.serves s r).1.air = s.air := by
  cases r with
  | begin_ => unfold Hs08.serves; dsimp only; split <;> (try split) <;> exact ⟨rfl, rfl, rfl, rfl⟩
  | log e n j => unfold Hs08.serves; dsimp only; split <;> (try split) <;> (try split) <;> (try split) <;> exact ⟨rfl, rfl, rfl, rfl⟩
  | add e n j q v => rw [serves_add]; dsimp only; unfold Hs08.setLog; split <;> exact ⟨rfl, rfl, rfl, rfl⟩
  | commit e n p q => unfold Hs08.serves; dsimp only; split <;> (try split) <;> (try split) <;> exact ⟨rfl, rfl, rfl, rfl⟩
theorem serves_recs (s : Hs08.St) (r : Hs08.Req) (i : Nat) : (Hs08.log (Hs08.serves s r).1 i).recs.length ≤ (Hs08.log s i).recs.length + 1 := by
  cases r with
  | begin_ => unfold Hs08.serves; dsimp only; split <;> (try split) <;> exact Nat.le_succ _
  | log e n j => unfold Hs08.serves; dsimp only; split <;> (try split) <;> (try split) <;> (try split) <;> exact Nat.le_succ _
  | add e n j q v =>
    rw [serves_add]; dsimp only
    have := addL_len (Hs08.log s j) e q v
    unfold Hs08.setLog Hs08.log at this ⊢
    by_cases hj : j = 0
    · rw [if_pos hj] at this ⊢
      rw [if_pos hj]
      by_cases hi : i = 0
      · rw [if_pos hi, if_pos hi]; exact this
      · rw [if_neg hi, if_neg hi]; exact Nat.le_succ _
    · rw [if_neg hj] at this ⊢
      rw [if_neg hj]
      by_cases hi : i = 0
      · rw [if_pos hi, if_pos hi]; exact Nat.le_succ _
      · rw [if_neg hi, if_neg hi]; exact this
  | commit e n p q => unfold Hs08.serves; dsimp only; split <;> (try split) <;> (try split) <;> exact Nat.le_succ _
theorem serves_epoch (s : Hs08.St) (r : Hs08.Req) : ansOk r (Hs08.serves s r).2 := by
  cases r with
  | begin_ =>
    unfold Hs08.serves; dsimp only
    split
    · exact fun _ => Nat.succ_ne_zero _
    · split <;> trivial
  | log e n j =>
    cases h : (Hs08.serves s (.log e n j)).2 with
    | ok a b c => exact fun z => nomatch z
    | wait => trivial
    | out => trivial
  | add e n j q v =>
    cases h : (Hs08.serves s (.add e n j q v)).2 with
    | ok a b c => exact fun z => nomatch z
    | wait => trivial
    | out => trivial
  | commit e n p q =>
    cases h : (Hs08.serves s (.commit e n p q)).2 with
    | ok a b c => exact fun z => nomatch z
    | wait => trivial
    | out => trivial
theorem withLog_op {t : Hs08.Tx} {j : Nat} (h : t.state = 0 → t.left0 = false ∧ t.left1 = false) : OpOk (some (Hs08.withLog t j)) := fun u e z => by
  cases e
  obtain ⟨_, e2, _, _, e5, e6⟩ := withLog_same t j
  rw [e2] at z
  rw [e5, e6]
  exact h z
theorem serves_op (s : Hs08.St) (r : Hs08.Req) (h : OpOk s.tx) : OpOk (Hs08.serves s r).1.tx := by
  cases r with
  | begin_ =>
    unfold Hs08.serves; dsimp only
    split
    · exact h
    · split
      · exact fun u e z => by cases e; cases z
      · exact h
  | log e n j =>
    unfold Hs08.serves; dsimp only
    split
    · exact h
    · split
      · split
        · exact h
        · exact withLog_op fun _ => ⟨rfl, rfl⟩
      · rename_i t ht
        split
        · exact h
        · split
          · exact withLog_op (h t ht)
          · exact h
  | add e n j q v =>
    rw [serves_add]; dsimp only
    unfold Hs08.setLog
    split <;> exact h
  | commit e n p q =>
    unfold Hs08.serves; dsimp only
    split
    · exact h
    · split
      · exact h
      · split
        · exact fun u e z => by cases e; cases z
        · exact h
theorem Sane.serves {s : Hs08.St} {N : Nat} (S : Sane s N) (r : Hs08.Req) : Sane (Hs08.serves s r).1 (N + 1) := by
  obtain ⟨e1, e2, e3, e4⟩ := serves_rest s r
  refine ⟨by rw [e3]; exact S.len, by rw [e1]; exact S.ba, by rw [e4]; exact S.ok, ?_, ?_, fun j => ?_, serves_op s r S.op⟩
  · have := S.szi; rw [e2]; omega
  · have := S.sza; rw [e4]; omega
  · have := serves_recs s r j
    have := S.szr j
    omega
def spServe (C : Cs) : Sp := fun vs H Q _ => ∃ (a t : Addr) (col : Col) (A : Ad) (s : Hs08.St) (r : Hs08.Req) (N : Nat), vs = [.ref a, .ref t] ∧ JobAt C col A H a s ∧ Sane s N ∧ N < 1000 ∧ reqOk r ∧ H t = some (.tup (airT r)) ∧
  ∀ (H' : Hp) (col' : Col) (fp' : List Addr) (u : Addr), JobAt C col' { A with fp := fp' } H' a (Hs08.serves s r).1 → H' u = some (.tup (ansT (isBegin r) (Hs08.serves s r).2)) → JFr col H col' H' → Q (.ref u) H'
theorem sameA_fp (A : Ad) (fp : List Addr) (c : Part) (h : c ≠ .ke) : SameA A { A with fp := fp } c := by
  cases c <;> first | rfl | exact ⟨rfl, rfl⟩ | exact ⟨rfl, rfl, rfl⟩ | exact ⟨rfl, rfl, rfl, rfl, rfl, rfl⟩ | exact absurd rfl h
/-- the keeper has changed -/
theorem JobAt.keeper {C : Cs} {col : Col} {A : Ad} {H H' : Hp} {a : Addr} {s s' : Hs08.St} {fp' : List Addr} (J : JobAt C col A H a s) (R : KeepTo C.K C.T H H' A.ke A.fp fp' s') (e : ∀ c, c ≠ .ke → SameS s s' c) :
    ∃ col', JobAt C col' { A with fp := fp' } H' a s' ∧ JFr col H col' H' := by
  obtain ⟨h1, h2, h3⟩ := J.all .ke
  have hS : ∀ b ∈ A.ke :: A.fp, col b = some .ke := fun b hb => by
    rcases List.mem_cons.mp hb with rfl | hb
    · exact h2
    · exact h3 b hb
  have x : Ext H col (paint col fp' (some .ke)) := ext_paint fun b hb => by
    rcases R.new b hb with z | z
    · exact .inr (h3 b z)
    · exact .inl z
  obtain ⟨dx, v, a1, _⟩ := h1.ex
  refine ⟨paint col fp' (some .ke), J.change .ke R.kp hS x (fun c hc => ⟨e c hc, sameA_fp A fp' c hc⟩) ⟨R.at_, ?_, fun b hb => paint_in hb⟩, JFr.of R.kp (fun b hb z => by rw [hS b hb] at z; cases z) x⟩
  show paint col fp' (some .ke) A.ke = some .ke
  rw [x _ (by rw [a1]; simp)]
  exact h2
/-- log j has changed -/
theorem JobAt.logs {C : Cs} {col : Col} {A : Ad} {H H' : Hp} {a : Addr} {s : Hs08.St} {j : Nat} {x : Hs08.Log} (J : JobAt C col A H a s) (hj : j < 2) (L : LogAt C.L H' (A.l j) (A.r j) x) (k : Kp [A.l j, A.r j] H H') :
    JobAt C col A H' a (Hs08.setLog s j x) ∧ JFr col H col H' := by
  obtain ⟨h1, h2, h3⟩ := J.all (.lg j) hj
  have hS : ∀ b ∈ [A.l j, A.r j], col b = some (.lg j) := fun b hb => by
    simp only [List.mem_cons, List.not_mem_nil, or_false] at hb
    rcases hb with rfl | rfl
    · exact h2
    · exact h3
  refine ⟨J.change (.lg j) k hS (Ext.refl H col) (fun c hc => ⟨sameS_setLog s hj x c hc, sameA_refl A c⟩) fun _ => ⟨by rw [log_setLog hj]; exact L, h2, h3⟩, JFr.of k (fun b hb z => by rw [hS b hb] at z; cases z) (Ext.refl H col)⟩
section
variable {P : Program} {w : World} {K : PySem.W.Frag} {mg : Str → Option Value} {base : Heap} {C : Cs}
theorem ok_serve (T : Txt K mg C.T C.K C.L C.W C.J) : MOk P w K mg base C.J "serve" 4 ["self", "request"] (spServe C) := by
  obtain ⟨f, fd, M, F, B⟩ := T.m_Job_serve.ex
  obtain ⟨f1, fd1, M_serve_begin, B_serve_begin, G_serve_begin⟩ := ok_serve_begin (P := P) (w := w) (base := base) T
  obtain ⟨f2, fd2, M_serve_log, B_serve_log, G_serve_log⟩ := ok_serve_log (P := P) (w := w) (base := base) T
  obtain ⟨f3, fd3, M_serve_data, B_serve_data, G_serve_data⟩ := ok_Log_serve_data (P := P) (w := w) (base := base) T
  obtain ⟨f4, fd4, M_serve_end, B_serve_end, G_serve_end⟩ := ok_serve_end (P := P) (w := w) (base := base) T
  refine ⟨f, fd, M, B, F.ok c_Job_serve (fun vs H Q E h => ?_) (fun cdv A outer s H vs Q E hr h => ?_)⟩
  · obtain ⟨a, t, col, A, s, r, N, rfl, _⟩ := h
    rfl
  · obtain ⟨a, t, col, A, s, r, N, rfl, J, hSa, hN, hok, ht, k⟩ := h
    have nd := c_Job_serve.nd
    have h1 := (J.all .job).1
    refine ⟨_, (pss_cons (ps_set (i := 2) nd rfl (Or.inl rfl) (pe_ix ix_tup (pv 1) pe_int (fun _ _ => rfl)))
      (pss_cons (ps_if (pt_cmpR op_eq (pv 2) (pe_num rfl T.k_BEGIN) (nomark _)) (pss_one (ps_ret (pe_meth0 (pe_fld (pv 0) rfl) T.Keeper.cl M_serve_begin G_serve_begin (hr.mono (by decide)) B_serve_begin .nil pass0))) pss_nil)
      (pss_cons (ps_if (pt_cmpR op_eq (pv 2) (pe_num rfl T.k_LOG) (nomark _)) (pss_one (ps_ret (pe_meth (pe_fld (pv 0) rfl) T.Keeper.cl M_serve_log G_serve_log (hr.mono (by decide)) B_serve_log .nil pass0 (pa_cons (pe_ix ix_tup (pv 1) pe_int (fun _ _ => rfl)) (pa_cons (pe_ix ix_tup (pv 1) pe_int (fun _ _ => rfl)) (pa_cons (pe_ix ix_tup (pv 1) pe_int (fun _ _ => rfl)) pa_nil)))))) pss_nil)
      (pss_cons (ps_if (pt_cmpR op_eq (pv 2) (pe_num rfl T.k_DATA) (nomark _)) (pss_one (ps_ret (pe_meth (pe_ix ix_list (pe_fld (pv 0) rfl) (pe_ix ix_tup (pv 1) pe_int (fun _ _ => rfl)) (fun _ _ => rfl)) T.Log.cl M_serve_data G_serve_data (hr.mono (by decide)) B_serve_data .nil pass0 (pa_cons (pe_ix ix_tup (pv 1) pe_int (fun _ _ => rfl)) (pa_cons (pe_ix ix_tup (pv 1) pe_int (fun _ _ => rfl)) (pa_cons (pe_ix ix_tup (pv 1) pe_int (fun _ _ => rfl)) pa_nil)))))) pss_nil)
      (pss_one (ps_ret (pe_meth (pe_fld (pv 0) rfl) T.Keeper.cl M_serve_end G_serve_end (hr.mono (by decide)) B_serve_end .nil pass0 (pa_cons (pe_ix ix_tup (pv 1) pe_int (fun _ _ => rfl)) (pa_cons (pe_ix ix_tup (pv 1) pe_int (fun _ _ => rfl)) (pa_cons (pe_ix ix_tup (pv 1) pe_int (fun _ _ => rfl)) (pa_cons (pe_ix ix_tup (pv 1) pe_int (fun _ _ => rfl)) pa_nil))))))))))), ?_⟩
    obtain ⟨hk, hk2, hk3⟩ := J.all .ke
    obtain ⟨dk, vk, hk4, _⟩ := hk.ex
    cases r with
    | begin_ =>
      refine ⟨_, rfl, t, _, _, _, rfl, rfl, SqT.of ht, at0, ?_⟩
      refine ⟨_, rfl, rfl, _, rfl, iteT ?_⟩
      refine ⟨_, rfl, a, C.J, A.dj, _, _, rfl, h1, T.Job.cl, T.n_Job_keeper, jf_keeper _ _ _ _ _ _, A.ke, dk, _, rfl, hk4, rfl, ?_⟩
      refine ⟨A.ke, A.fp, s, rfl, hk, fun H' u fp' hu R => ?_⟩
      obtain ⟨col', J', fr⟩ := J.keeper R (serves_begin s)
      exact k H' col' fp' u J' hu fr
    | log e n j =>
      refine ⟨_, rfl, t, _, _, _, rfl, rfl, SqT.of ht, at0, ?_⟩
      refine ⟨_, rfl, rfl, _, rfl, iteF ?_⟩
      refine ⟨_, rfl, rfl, _, rfl, iteT ?_⟩
      refine ⟨_, rfl, a, C.J, A.dj, _, _, rfl, h1, T.Job.cl, T.n_Job_keeper, jf_keeper _ _ _ _ _ _, A.ke, dk, _, rfl, hk4, rfl, ?_⟩
      refine ⟨_, rfl, t, _, _, vn e, rfl, rfl, SqT.of ht, (by rfl), _, rfl, t, _, _, vn n, rfl, rfl, SqT.of ht, (by rfl), _, rfl, t, _, _, vn j, rfl, rfl, SqT.of ht, (by rfl), ?_⟩
      refine ⟨A.ke, A.fp, s, e, n, j, rfl, hk, hok, fun H' u fp' hu R => ?_⟩
      obtain ⟨col', J', fr⟩ := J.keeper R (serves_log s e n j)
      exact k H' col' fp' u J' hu fr
    | add e n j q v =>
      have hj : j < 2 := hok
      obtain ⟨hl1, hl2, hl3⟩ := J.all (.lg j) hj
      obtain ⟨dl, ts, hl4, hl5, _⟩ := hl1.ex
      refine ⟨_, rfl, t, _, _, _, rfl, rfl, SqT.of ht, at0, ?_⟩
      refine ⟨_, rfl, rfl, _, rfl, iteF ?_⟩
      refine ⟨_, rfl, rfl, _, rfl, iteF ?_⟩
      refine ⟨_, rfl, rfl, _, rfl, iteT ?_⟩
      have hpk : [V.ref (A.l 0), V.ref (A.l 1)][j]? = some (.ref (A.l j)) := by
        match j, hj with
        | 0, _ => rfl
        | 1, _ => rfl
      refine ⟨_, rfl, a, C.J, A.dj, _, _, rfl, h1, T.Job.cl, T.n_Job_logs, jf_logs _ _ _ _ _ _, _, rfl, t, _, _, vn j, rfl, rfl, SqT.of ht, (by rfl), A.lo, _, _, _, rfl, rfl, SqL.of (J.all .lo).1, atI_nat hpk, A.l j, dl, _, rfl, hl4, rfl, ?_⟩
      refine ⟨_, rfl, t, _, _, vn e, rfl, rfl, SqT.of ht, (by rfl), _, rfl, t, _, _, vn q, rfl, rfl, SqT.of ht, (by rfl), _, rfl, t, _, _, vn v, rfl, rfl, SqT.of ht, (by rfl), ?_⟩
      have := hSa.szr j
      refine ⟨A.l j, A.r j, Hs08.log s j, e, q, v, rfl, hl1, by omega, fun H' u hu L' kp => ?_⟩
      obtain ⟨J', fr⟩ := J.logs hj L' kp
      rw [serves_add] at k
      exact k H' col A.fp u J' hu fr
    | commit e n p q =>
      refine ⟨_, rfl, t, _, _, _, rfl, rfl, SqT.of ht, at0, ?_⟩
      refine ⟨_, rfl, rfl, _, rfl, iteF ?_⟩
      refine ⟨_, rfl, rfl, _, rfl, iteF ?_⟩
      refine ⟨_, rfl, rfl, _, rfl, iteF ?_⟩
      refine ⟨_, rfl, a, C.J, A.dj, _, _, rfl, h1, T.Job.cl, T.n_Job_keeper, jf_keeper _ _ _ _ _ _, A.ke, dk, _, rfl, hk4, rfl, ?_⟩
      refine ⟨_, rfl, t, _, _, vn e, rfl, rfl, SqT.of ht, (by rfl), _, rfl, t, _, _, vn n, rfl, rfl, SqT.of ht, (by rfl), _, rfl, t, _, _, vn p, rfl, rfl, SqT.of ht, (by rfl), _, rfl, t, _, _, vn q, rfl, rfl, SqT.of ht, (by rfl), ?_⟩
      refine ⟨A.ke, A.fp, s, e, n, p, q, rfl, hk, fun H' u fp' hu R => ?_⟩
      obtain ⟨col', J', fr⟩ := J.keeper R (serves_commit s e n p q)
      exact k H' col' fp' u J' hu fr
end
end Sw

namespace Sw
open PySem PySem.Spec PyProof.Rows L2
/-- heaps grow, but at a -/
structure Gr (a : Addr) (H H' : Hp) : Prop where
  kp : Kp [a] H H'
  al : H' a ≠ none
theorem Gr.live {a : Addr} {H H' : Hp} (g : Gr a H H') {b : Addr} (h : H b ≠ none) : H' b ≠ none := by
  by_cases e : b = a
  · rw [e]; exact g.al
  · cases q : H b with
    | none => exact absurd q h
    | some o => rw [g.kp.keep b o q (by simpa using e)]; simp
theorem Gr.trans {a : Addr} {H H1 H2 : Hp} (x : Gr a H H1) (y : Gr a H1 H2) : Gr a H H2 := ⟨x.kp.trans y.kp, y.al⟩
theorem Gr.free {a : Addr} {H H' : Hp} (g : Gr a H H') {b : Addr} (h : H' b = none) : H b = none := by
  cases q : H b with
  | none => rfl
  | some o => exact absurd h (g.live (by rw [q]; simp))
theorem Gr.of_same {a : Addr} {H H' : Hp} (s : Same H H') (h : H a ≠ none) : Gr a H H' := ⟨Same.kp s _, by
  cases q : H a with
  | none => exact absurd q h
  | some o => rw [s a o q]; simp⟩
theorem Gr.set {a : Addr} {H : Hp} {o u : HO} (h : H a = some o) (nt : ∀ xs, o ≠ .tup xs) : Gr a H (upd H a u) := ⟨Kp.upd (by simp) h nt, by rw [upd_same]; simp⟩
theorem Gr.refl {a : Addr} {H : Hp} (h : H a ≠ none) : Gr a H H := ⟨Kp.refl _ _, h⟩
theorem Ext.trans {a : Addr} {H H2 : Hp} {c1 c2 c3 : Col} (x : Ext H c1 c2) (y : Ext H2 c2 c3) (g : Gr a H H2) : Ext H c1 c3 := fun b h => (y b (g.live h)).trans (x b h)
theorem live {H : Hp} {b : Addr} {o : HO} (h : H b = some o) : H b ≠ none := by rw [h]; simp
theorem same_new {H : Hp} {p : Addr} {u : HO} (e : H p = none) : Same H (upd H p u) := fun b o h => by rw [upd_ne (ne_of_none h e)]; exact h
def beF (b : Nat) (nu lo ke wo ai : Addr) (fs : List (Str × V)) : List (Str × V) := putF "air" (.ref ai) (putF "workers" (.ref wo) (putF "keeper" (.ref ke) (putF "logs" (.ref lo) (putF "numbers" (.ref nu) (putF "batch" (vn b) fs)))))
def spBegin (C : Cs) : Sp := fun vs H Q _ => ∃ (a dj : Addr) (fs : List (Str × V)) (col : Col) (b : Nat), vs = [.ref a, vn b] ∧ H a = some (.ins C.J dj fs) ∧ fs.length ≤ 90 ∧ (∀ nu lo ke wo ai, beF b nu lo ke wo ai fs = jf b nu lo ke wo ai) ∧ col a = some .job ∧
  ∀ (H' : Hp) (col' : Col) (A' : Ad), JobAt C col' A' H' a (Hs08.fresh b) → JFr col H col' H' → Q .non H'
section
variable {P : Program} {w : World} {K : PySem.W.Frag} {mg : Str → Option Value} {base : Heap} {C : Cs}
theorem ok_begin (T : Txt K mg C.T C.K C.L C.W C.J) : MOk P w K mg base C.J "begin" 6 ["self", "batch"] (spBegin C) := by
  obtain ⟨f, fd, M, F, B⟩ := T.m_Job_begin.ex
  obtain ⟨f1, fd1, M_Log, B_Log, G_Log⟩ := ok_Log_init (P := P) (w := w) (base := base) T
  obtain ⟨f2, fd2, M_Keeper, B_Keeper, G_Keeper⟩ := ok_Keeper_init (P := P) (w := w) (base := base) T
  obtain ⟨f3, fd3, M_Worker, B_Worker, G_Worker⟩ := ok_Worker_init (P := P) (w := w) (base := base) T
  refine ⟨f, fd, M, B, F.ok c_Job_begin (fun vs H Q E h => ?_) (fun cdv A outer s H vs Q E hr h => ?_)⟩
  · obtain ⟨a, dj, fs, col, b, rfl, _⟩ := h
    rfl
  · obtain ⟨a, dj, fs, col, b, rfl, ha, hl, hbe, hcol, k⟩ := h
    refine ⟨_, (pss_cons (ps_fld (pv 0) (pv 1) rfl)
      (pss_cons (ps_fld (pv 0) (pe_lst pa_nil) rfl)
      (pss_cons (ps_fld (pv 0) (pe_lst (pa_cons (pe_make0 M_Log G_Log (hr.mono (by decide)) rfl T.Log.mgC B_Log .nil pass0) (pa_cons (pe_make0 M_Log G_Log (hr.mono (by decide)) rfl T.Log.mgC B_Log .nil pass0) pa_nil))) rfl)
      (pss_cons (ps_fld (pv 0) (pe_make0 M_Keeper G_Keeper (hr.mono (by decide)) rfl T.Keeper.mgC B_Keeper .nil pass0) rfl)
      (pss_cons (ps_fld (pv 0) (pe_lst (pa_cons (pe_make M_Worker G_Worker (hr.mono (by decide)) rfl T.Worker.mgC B_Worker .nil pass0 (pa_cons pe_bl pa_nil)) (pa_cons (pe_make M_Worker G_Worker (hr.mono (by decide)) rfl T.Worker.mgC B_Worker .nil pass0 (pa_cons pe_bl pa_nil)) (pa_cons (pe_make M_Worker G_Worker (hr.mono (by decide)) rfl T.Worker.mgC B_Worker .nil pass0 (pa_cons pe_bl pa_nil)) pa_nil)))) rfl)
      (pss_one (ps_fld (pv 0) (pe_lst pa_nil) rfl))))))), ?_⟩
    have l1 := put_len (f := "batch") (v := vn b) hl
    refine ⟨_, rfl, _, rfl, a, C.J, dj, _, rfl, ha, T.Job.cl, T.n_Job_batch, by omega, ?_⟩
    have g0 : Gr a H (upd H a (.ins C.J dj (putF "batch" (vn b) fs))) := Gr.set ha (by intro xs z; cases z)
    have a0 : (upd H a (.ins C.J dj (putF "batch" (vn b) fs))) a = some (.ins C.J dj (putF "batch" (vn b) fs)) := upd_same
    generalize upd H a (.ins C.J dj (putF "batch" (vn b) fs)) = H0 at g0 a0 ⊢
    -- numbers
    refine ⟨Nat.zero_le _, fun nu hnu => ?_⟩
    have a1 : (upd H0 nu (.lst [])) a = _ := same_new hnu _ _ a0
    have l2 := put_len (f := "numbers") (v := .ref nu) l1
    refine ⟨_, rfl, a, C.J, dj, _, rfl, a1, T.Job.cl, T.n_Job_numbers, by omega, ?_⟩
    have nna : nu ≠ a := (ne_of_none a0 hnu).symm
    have g1 : Gr a H0 (upd (upd H0 nu (.lst [])) a (.ins C.J dj (putF "numbers" (.ref nu) (putF "batch" (vn b) fs)))) := (Gr.of_same (same_new hnu) (live a0)).trans (Gr.set a1 (by intro xs z; cases z))
    have n1 : (upd (upd H0 nu (.lst [])) a (.ins C.J dj (putF "numbers" (.ref nu) (putF "batch" (vn b) fs)))) nu = some (.lst []) := by rw [upd_ne nna, upd_same]
    have a2 : (upd (upd H0 nu (.lst [])) a (.ins C.J dj (putF "numbers" (.ref nu) (putF "batch" (vn b) fs)))) a = some (.ins C.J dj (putF "numbers" (.ref nu) (putF "batch" (vn b) fs))) := upd_same
    generalize upd (upd H0 nu (.lst [])) a (.ins C.J dj (putF "numbers" (.ref nu) (putF "batch" (vn b) fs))) = H1 at g1 n1 a2 ⊢
    -- logs
    intro p0 d0 np0 nd0 _
    refine ⟨p0, d0, rfl, upd_same, fun H2 r0 fr0 L0 k2 => ⟨rfl, ?_⟩⟩
    have s2 : Same H1 H2 := made np0 nd0 k2
    have fr0 := made_free fr0
    intro p1 d1 np1 nd1 _
    refine ⟨p1, d1, rfl, upd_same, fun H3 r1 fr1 L1 k3 => ⟨rfl, ?_⟩⟩
    have s3 : Same H2 H3 := made np1 nd1 k3
    have fr1 := made_free fr1
    refine ⟨(by show 2 ≤ sizeLine; decide), fun lo hlo => ?_⟩
    have a3 : (upd H3 lo (.lst [.ref p0, .ref p1])) a = _ := same_new hlo _ _ (s3 _ _ (s2 _ _ a2))
    have l3 := put_len (f := "logs") (v := .ref lo) l2
    refine ⟨_, rfl, a, C.J, dj, _, rfl, a3, T.Job.cl, T.n_Job_logs, by omega, ?_⟩
    have ga2 : Gr a H1 H2 := Gr.of_same s2 (live a2)
    have ga3 : Gr a H2 H3 := Gr.of_same s3 (live (s2 _ _ a2))
    have nla : lo ≠ a := (ne_of_none (s3 _ _ (s2 _ _ a2)) hlo).symm
    have g4 : Gr a H3 (upd (upd H3 lo (.lst [.ref p0, .ref p1])) a (.ins C.J dj (putF "logs" (.ref lo) (putF "numbers" (.ref nu) (putF "batch" (vn b) fs))))) := (Gr.of_same (same_new hlo) (live (s3 _ _ (s2 _ _ a2)))).trans (Gr.set a3 (by intro xs z; cases z))
    have o4 : (upd (upd H3 lo (.lst [.ref p0, .ref p1])) a (.ins C.J dj (putF "logs" (.ref lo) (putF "numbers" (.ref nu) (putF "batch" (vn b) fs))))) lo = some (.lst [.ref p0, .ref p1]) := by rw [upd_ne nla, upd_same]
    have a4 : (upd (upd H3 lo (.lst [.ref p0, .ref p1])) a (.ins C.J dj (putF "logs" (.ref lo) (putF "numbers" (.ref nu) (putF "batch" (vn b) fs))))) a = some (.ins C.J dj (putF "logs" (.ref lo) (putF "numbers" (.ref nu) (putF "batch" (vn b) fs)))) := upd_same
    generalize upd (upd H3 lo (.lst [.ref p0, .ref p1])) a (.ins C.J dj (putF "logs" (.ref lo) (putF "numbers" (.ref nu) (putF "batch" (vn b) fs)))) = H4 at g4 o4 a4 ⊢
    -- keeper
    intro ke dk nk ndk _
    refine ⟨ke, dk, rfl, upd_same, fun H5 hK k5 => ⟨rfl, ?_⟩⟩
    have s5 : Same H4 H5 := made nk ndk k5
    have l4 := put_len (f := "keeper") (v := .ref ke) l3
    have a5 := s5 _ _ a4
    have KA : KeepAt C.K C.T H5 ke [] (Hs08.fresh b) := hK _ rfl rfl rfl rfl rfl
    obtain ⟨dke, vke, hke, _⟩ := KA.ex
    have nka : ke ≠ a := (ne_of_none a4 nk).symm
    refine ⟨_, rfl, a, C.J, dj, _, rfl, a5, T.Job.cl, T.n_Job_keeper, by omega, ?_⟩
    have g5 : Gr a H4 H5 := Gr.of_same s5 (live a4)
    have g6 : Gr a H5 (upd H5 a (.ins C.J dj (putF "keeper" (.ref ke) (putF "logs" (.ref lo) (putF "numbers" (.ref nu) (putF "batch" (vn b) fs)))))) := Gr.set a5 (by intro xs z; cases z)
    have KA6 := KA.keep g6.kp (by simpa using nka) (by simp)
    have a6 : (upd H5 a (.ins C.J dj (putF "keeper" (.ref ke) (putF "logs" (.ref lo) (putF "numbers" (.ref nu) (putF "batch" (vn b) fs)))))) a = some (.ins C.J dj (putF "keeper" (.ref ke) (putF "logs" (.ref lo) (putF "numbers" (.ref nu) (putF "batch" (vn b) fs))))) := upd_same
    generalize upd H5 a (.ins C.J dj (putF "keeper" (.ref ke) (putF "logs" (.ref lo) (putF "numbers" (.ref nu) (putF "batch" (vn b) fs))))) = H6 at g6 KA6 a6 ⊢
    -- workers
    intro w0 e0 nw0 ne0 _
    refine ⟨w0, e0, true, rfl, upd_same, fun H7 n0 g0' fn0 fg0 W0 k7 => ⟨rfl, ?_⟩⟩
    have s7 : Same H6 H7 := made nw0 ne0 k7
    have fn0 := made_free fn0
    have fg0 := made_free fg0
    intro w1 e1 nw1 ne1 _
    refine ⟨w1, e1, false, rfl, upd_same, fun H8 n1' g1' fn1 fg1 W1 k8 => ⟨rfl, ?_⟩⟩
    have s8 : Same H7 H8 := made nw1 ne1 k8
    have fn1 := made_free fn1
    have fg1 := made_free fg1
    intro w2 e2 nw2 ne2 _
    refine ⟨w2, e2, false, rfl, upd_same, fun H9 n2' g2' fn2 fg2 W2 k9 => ⟨rfl, ?_⟩⟩
    have s9 : Same H8 H9 := made nw2 ne2 k9
    have fn2 := made_free fn2
    have fg2 := made_free fg2
    refine ⟨(by show 3 ≤ sizeLine; decide), fun wo hwo => ?_⟩
    have a9 := s9 _ _ (s8 _ _ (s7 _ _ a6))
    have a10 : (upd H9 wo (.lst [.ref w0, .ref w1, .ref w2])) a = _ := same_new hwo _ _ a9
    have l5 := put_len (f := "workers") (v := .ref wo) l4
    refine ⟨_, rfl, a, C.J, dj, _, rfl, a10, T.Job.cl, T.n_Job_workers, by omega, ?_⟩
    have g7 : Gr a H6 H7 := Gr.of_same s7 (live a6)
    have g8 : Gr a H7 H8 := Gr.of_same s8 (live (s7 _ _ a6))
    have g9 : Gr a H8 H9 := Gr.of_same s9 (live (s8 _ _ (s7 _ _ a6)))
    have nwa : wo ≠ a := (ne_of_none a9 hwo).symm
    have g10 : Gr a H9 (upd (upd H9 wo (.lst [.ref w0, .ref w1, .ref w2])) a (.ins C.J dj (putF "workers" (.ref wo) (putF "keeper" (.ref ke) (putF "logs" (.ref lo) (putF "numbers" (.ref nu) (putF "batch" (vn b) fs))))))) := (Gr.of_same (same_new hwo) (live a9)).trans (Gr.set a10 (by intro xs z; cases z))
    have o10 : (upd (upd H9 wo (.lst [.ref w0, .ref w1, .ref w2])) a (.ins C.J dj (putF "workers" (.ref wo) (putF "keeper" (.ref ke) (putF "logs" (.ref lo) (putF "numbers" (.ref nu) (putF "batch" (vn b) fs))))))) wo = some (.lst [.ref w0, .ref w1, .ref w2]) := by rw [upd_ne nwa, upd_same]
    have a11 : (upd (upd H9 wo (.lst [.ref w0, .ref w1, .ref w2])) a (.ins C.J dj (putF "workers" (.ref wo) (putF "keeper" (.ref ke) (putF "logs" (.ref lo) (putF "numbers" (.ref nu) (putF "batch" (vn b) fs))))))) a = some (.ins C.J dj (putF "workers" (.ref wo) (putF "keeper" (.ref ke) (putF "logs" (.ref lo) (putF "numbers" (.ref nu) (putF "batch" (vn b) fs)))))) := upd_same
    generalize upd (upd H9 wo (.lst [.ref w0, .ref w1, .ref w2])) a (.ins C.J dj (putF "workers" (.ref wo) (putF "keeper" (.ref ke) (putF "logs" (.ref lo) (putF "numbers" (.ref nu) (putF "batch" (vn b) fs)))))) = H10 at g10 o10 a11 ⊢
    -- air
    refine ⟨Nat.zero_le _, fun ai hai => ?_⟩
    have a12 : (upd H10 ai (.lst [])) a = _ := same_new hai _ _ a11
    refine ⟨_, rfl, a, C.J, dj, _, rfl, a12, T.Job.cl, T.n_Job_air, by omega, ?_⟩
    have nia : ai ≠ a := (ne_of_none a11 hai).symm
    have g11 : Gr a H10 (upd (upd H10 ai (.lst [])) a (.ins C.J dj (beF b nu lo ke wo ai fs))) := (Gr.of_same (same_new hai) (live a11)).trans (Gr.set a12 (by intro xs z; cases z))
    have o11 : (upd (upd H10 ai (.lst [])) a (.ins C.J dj (beF b nu lo ke wo ai fs))) ai = some (.lst []) := by rw [upd_ne nia, upd_same]
    have a13 : (upd (upd H10 ai (.lst [])) a (.ins C.J dj (beF b nu lo ke wo ai fs))) a = some (.ins C.J dj (beF b nu lo ke wo ai fs)) := upd_same
    show Q .non (upd (upd H10 ai (.lst [])) a (.ins C.J dj (beF b nu lo ke wo ai fs)))
    generalize upd (upd H10 ai (.lst [])) a (.ins C.J dj (beF b nu lo ke wo ai fs)) = H11 at g11 o11 a13 ⊢
    rw [hbe] at a13
    -- the parts, from the end
    have G10 := g10.trans g11
    have G9 := g9.trans G10
    have G8 := g8.trans G9
    have G7 := g7.trans G8
    have G6 := g6.trans G7
    have G5 := g5.trans G6
    have G4 := g4.trans G5
    have G3 := ga3.trans G4
    have G2 := ga2.trans G3
    have x1 : Ext H0 col (paint col [nu] (some .nu)) := ext_paint (by intro b hb; simp only [List.mem_cons, List.not_mem_nil, or_false] at hb; subst hb; exact .inl hnu)
    have c1n : paint col [nu] (some .nu) nu = some .nu := paint_in (by simp)
    generalize paint col [nu] (some .nu) = c1 at x1 c1n
    have x2 : Ext H1 c1 (paint c1 [p0, r0] (some (.lg 0))) := ext_paint (by intro b hb; simp only [List.mem_cons, List.not_mem_nil, or_false] at hb; rcases hb with rfl | rfl; exact .inl np0; exact .inl fr0)
    have c2p : paint c1 [p0, r0] (some (.lg 0)) p0 = some (.lg 0) := paint_in (by simp)
    have c2r : paint c1 [p0, r0] (some (.lg 0)) r0 = some (.lg 0) := paint_in (by simp)
    generalize paint c1 [p0, r0] (some (.lg 0)) = c2 at x2 c2p c2r
    have x3 : Ext H2 c2 (paint c2 [p1, r1] (some (.lg 1))) := ext_paint (by intro b hb; simp only [List.mem_cons, List.not_mem_nil, or_false] at hb; rcases hb with rfl | rfl; exact .inl np1; exact .inl fr1)
    have c3p : paint c2 [p1, r1] (some (.lg 1)) p1 = some (.lg 1) := paint_in (by simp)
    have c3r : paint c2 [p1, r1] (some (.lg 1)) r1 = some (.lg 1) := paint_in (by simp)
    generalize paint c2 [p1, r1] (some (.lg 1)) = c3 at x3 c3p c3r
    have x4 : Ext H3 c3 (paint c3 [lo] (some .lo)) := ext_paint (by intro b hb; simp only [List.mem_cons, List.not_mem_nil, or_false] at hb; subst hb; exact .inl hlo)
    have c4n : paint c3 [lo] (some .lo) lo = some .lo := paint_in (by simp)
    generalize paint c3 [lo] (some .lo) = c4 at x4 c4n
    have x5 : Ext H4 c4 (paint c4 [ke] (some .ke)) := ext_paint (by intro b hb; simp only [List.mem_cons, List.not_mem_nil, or_false] at hb; subst hb; exact .inl nk)
    have c5n : paint c4 [ke] (some .ke) ke = some .ke := paint_in (by simp)
    generalize paint c4 [ke] (some .ke) = c5 at x5 c5n
    have x6 : Ext H6 c5 (paint c5 [w0, n0, g0'] (some (.wk 0))) := ext_paint (by intro b hb; simp only [List.mem_cons, List.not_mem_nil, or_false] at hb; rcases hb with rfl | rfl | rfl; exact .inl nw0; exact .inl fn0; exact .inl fg0)
    have c6w : paint c5 [w0, n0, g0'] (some (.wk 0)) w0 = some (.wk 0) := paint_in (by simp)
    have c6n : paint c5 [w0, n0, g0'] (some (.wk 0)) n0 = some (.wk 0) := paint_in (by simp)
    have c6g : paint c5 [w0, n0, g0'] (some (.wk 0)) g0' = some (.wk 0) := paint_in (by simp)
    generalize paint c5 [w0, n0, g0'] (some (.wk 0)) = c6 at x6 c6w c6n c6g
    have x7 : Ext H7 c6 (paint c6 [w1, n1', g1'] (some (.wk 1))) := ext_paint (by intro b hb; simp only [List.mem_cons, List.not_mem_nil, or_false] at hb; rcases hb with rfl | rfl | rfl; exact .inl nw1; exact .inl fn1; exact .inl fg1)
    have c7w : paint c6 [w1, n1', g1'] (some (.wk 1)) w1 = some (.wk 1) := paint_in (by simp)
    have c7n : paint c6 [w1, n1', g1'] (some (.wk 1)) n1' = some (.wk 1) := paint_in (by simp)
    have c7g : paint c6 [w1, n1', g1'] (some (.wk 1)) g1' = some (.wk 1) := paint_in (by simp)
    generalize paint c6 [w1, n1', g1'] (some (.wk 1)) = c7 at x7 c7w c7n c7g
    have x8 : Ext H8 c7 (paint c7 [w2, n2', g2'] (some (.wk 2))) := ext_paint (by intro b hb; simp only [List.mem_cons, List.not_mem_nil, or_false] at hb; rcases hb with rfl | rfl | rfl; exact .inl nw2; exact .inl fn2; exact .inl fg2)
    have c8w : paint c7 [w2, n2', g2'] (some (.wk 2)) w2 = some (.wk 2) := paint_in (by simp)
    have c8n : paint c7 [w2, n2', g2'] (some (.wk 2)) n2' = some (.wk 2) := paint_in (by simp)
    have c8g : paint c7 [w2, n2', g2'] (some (.wk 2)) g2' = some (.wk 2) := paint_in (by simp)
    generalize paint c7 [w2, n2', g2'] (some (.wk 2)) = c8 at x8 c8w c8n c8g
    have x9 : Ext H9 c8 (paint c8 [wo] (some .wo)) := ext_paint (by intro b hb; simp only [List.mem_cons, List.not_mem_nil, or_false] at hb; subst hb; exact .inl hwo)
    have c9n : paint c8 [wo] (some .wo) wo = some .wo := paint_in (by simp)
    generalize paint c8 [wo] (some .wo) = c9 at x9 c9n
    have y10 : Ext H10 c9 (paint c9 [ai] (some .ai)) := ext_paint (by intro b hb; simp only [List.mem_cons, List.not_mem_nil, or_false] at hb; subst hb; exact .inl hai)
    have c10n : paint c9 [ai] (some .ai) ai = some .ai := paint_in (by simp)
    generalize paint c9 [ai] (some .ai) = c10 at y10 c10n
    have y9 : Ext H9 c8 c10 := x9.trans y10 g10
    have y8 : Ext H8 c7 c10 := x8.trans y9 g9
    have y7 : Ext H7 c6 c10 := x7.trans y8 g8
    have y6 : Ext H6 c5 c10 := x6.trans y7 g7
    have y5 : Ext H4 c4 c10 := x5.trans y6 (g5.trans g6)
    have y4 : Ext H3 c3 c10 := x4.trans y5 g4
    have y3 : Ext H2 c2 c10 := x3.trans y4 ga3
    have y2 : Ext H1 c1 c10 := x2.trans y3 ga2
    have y1 : Ext H0 col c10 := x1.trans y2 g1
    have y0 : Ext H col c10 := fun z hz => y1 z (g0.live hz)
    have GA : Gr a H H11 := g0.trans (g1.trans G2)
    obtain ⟨_, _, L0a, L0b, _⟩ := L0.ex
    obtain ⟨_, _, L1a, L1b, _⟩ := L1.ex
    obtain ⟨_, K6a, K6b, _⟩ := KA6.ex
    obtain ⟨_, W0a⟩ := W0.ex
    obtain ⟨_, _, W0b, _⟩ := W0.nx
    obtain ⟨_, W1a⟩ := W1.ex
    obtain ⟨_, _, W1b, _⟩ := W1.nx
    obtain ⟨_, W2a⟩ := W2.ex
    obtain ⟨_, _, W2b, _⟩ := W2.nx
    have na {X : Hp} {q : Addr} {o : HO} (h1 : X a = some o) (h2 : X q = none) : q ∉ [a] := by
      simpa using (ne_of_none h1 h2).symm
    have a7 := s7 _ _ a6
    have a8 := s8 _ _ a7
    have as2 := s2 _ _ a2
    refine k H11 c10 ⟨dj, nu, lo, ke, wo, ai, [], fun j => if j = 0 then p0 else p1, fun j => if j = 0 then r0 else r1, fun i => if i = 0 then w0 else if i = 1 then w1 else w2, fun i => if i = 0 then n0 else if i = 1 then n1' else n2', fun i => if i = 0 then g0' else if i = 1 then g1' else g2'⟩ ⟨fun c => ?_⟩ (JFr.of GA.kp (by intro z hz; simp only [List.mem_cons, List.not_mem_nil, or_false] at hz; rw [hz, hcol]; simp) y0)
    cases c with
    | job => exact ⟨a13, by rw [y0 _ (live ha)]; exact hcol⟩
    | nu => exact ⟨G2.kp.keep _ _ n1 (by simpa using nna), by rw [y2 _ (live n1)]; exact c1n⟩
    | lo => exact ⟨G5.kp.keep _ _ o4 (by simpa using nla), by rw [y5 _ (live o4)]; exact c4n⟩
    | ke => exact ⟨KA6.keep G7.kp (by simpa using nka) (by simp), by rw [y6 _ (live K6b)]; exact c5n, by intro z hz; cases hz⟩
    | lg j =>
      intro hj
      match j, hj with
      | 0, _ => exact ⟨L0.keep G3.kp (na a2 np0) (na a2 fr0), (y3 p0 (live L0a)).trans c2p, (y3 r0 (live L0b)).trans c2r⟩
      | 1, _ => exact ⟨L1.keep G4.kp (na as2 np1) (na as2 fr1), (y4 p1 (live L1a)).trans c3p, (y4 r1 (live L1b)).trans c3r⟩
    | wo => exact ⟨g11.kp.keep _ _ o10 (by simpa using nwa), by rw [y10 _ (live o10)]; exact c9n⟩
    | wk i =>
      intro hi
      match i, hi with
      | 0, _ => exact ⟨W0.keep G8.kp (na a6 nw0) (na a6 fn0) (na a6 fg0), (y7 w0 (live W0a)).trans c6w, (y7 n0 (live W0b)).trans c6n, (y7 g0' (live W0.gr)).trans c6g⟩
      | 1, _ => exact ⟨W1.keep G9.kp (na a7 nw1) (na a7 fn1) (na a7 fg1), (y8 w1 (live W1a)).trans c7w, (y8 n1' (live W1b)).trans c7n, (y8 g1' (live W1.gr)).trans c7g⟩
      | 2, _ => exact ⟨W2.keep G10.kp (na a8 nw2) (na a8 fn2) (na a8 fg2), (y9 w2 (live W2a)).trans c8w, (y9 n2' (live W2b)).trans c8n, (y9 g2' (live W2.gr)).trans c8g⟩
    | ai => exact ⟨⟨[], o11, Tups.nil _⟩, c10n⟩
def spJobInit (C : Cs) : Sp := fun vs H Q _ => ∃ (a dj : Addr) (col : Col), vs = [.ref a] ∧ H a = some (.ins C.J dj []) ∧ col a = some .job ∧
  ∀ (H' : Hp) (col' : Col) (A' : Ad), JobAt C col' A' H' a Hs08.init → JFr col H col' H' → Q .non H'
theorem ok_Job_init (T : Txt K mg C.T C.K C.L C.W C.J) : IOk P w K mg base C.J 7 ["self"] (spJobInit C) := by
  obtain ⟨f, fd, M, F, B⟩ := T.m_Job_init.ex
  obtain ⟨f1, fd1, M_begin, B_begin, G_begin⟩ := ok_begin (P := P) (w := w) (base := base) T
  refine ⟨f, fd, ⟨T.Job.makes, M.at_, M.fn, T.Job.kp⟩, B, F.ok c_Job_init (fun vs H Q E h => ?_) (fun cdv A outer s H vs Q E hr h => ?_)⟩
  · obtain ⟨a, dj, col, rfl, _⟩ := h
    rfl
  · obtain ⟨a, dj, col, rfl, ha, hc, k⟩ := h
    refine ⟨_, (pss_one (ps_expr (pe_meth (pv 0) T.Job.cl M_begin G_begin (hr.mono (by decide)) B_begin .nil pass0 (pa_cons (pe_num rfl T.k_FIRST_BATCH) pa_nil)))), ?_⟩
    refine ⟨_, rfl, a, dj, _, rfl, ha, rfl, ?_⟩
    exact ⟨a, dj, [], col, 2, rfl, ha, by decide, fun _ _ _ _ _ => rfl, hc, k⟩
/-! ### the calls: what each is promised -/
/-- what isn't the job's stands, and p is none of it -/
structure JFp (col : Col) (H : Hp) (col' : Col) (H' : Hp) (p : Addr) : Prop where
  fr : JFr col H col' H'
  new : H p = none ∨ col p ≠ none
theorem JFr.fin {col col1 : Col} {H H1 : Hp} {p : Addr} {u : HO} (f : JFr col H col1 H1) (hp : H1 p = none) : JFp col H col1 (upd H1 p u) p := ⟨f.trans (JFr.same (same_new hp)), by
  cases e : H p with
  | none => exact .inl rfl
  | some o => exact .inr fun z => by rw [f.keep p o e z] at hp; cases hp⟩
/-- a call with these numbers: its answer and the job behind it -/
def spCall (C : Cs) (n : Nat) (c : List Nat → Hs08.Call) : Sp := fun vs H Q _ => ∃ (a g : Addr) (ns : List Nat) (col : Col) (A : Ad) (s : Hs08.St) (N : Nat), vs = [.ref a, .ref g] ∧ ns.length = n ∧ H g = some (.lst (ns.map vn)) ∧ JobAt C col A H a s ∧ Sane s N ∧ N < 1000 ∧
  ∀ (H' : Hp) (col' : Col) (A' : Ad) (p : Addr), JobAt C col' A' H' a (Hs08.step s (c ns)).1 → H' p = some (.lst ((Hs08.step s (c ns)).2.map V.int)) → JFp col H col' H' p → Q (.ref p) H'
theorem len1 {ns : List Nat} (h : ns.length = 1) : ∃ x, ns = [x] := by
  match ns, h with
  | [x], _ => exact ⟨x, rfl⟩
theorem len2 {ns : List Nat} (h : ns.length = 2) : ∃ x y, ns = [x, y] := by
  match ns, h with
  | [x, y], _ => exact ⟨x, y, rfl⟩
theorem len0 {ns : List Nat} (h : ns.length = 0) : ns = [] := List.length_eq_zero_iff.mp h
def c0 (ns : List Nat) : Hs08.Call := .begin_ (ns.getD 0 0)
def c1 (ns : List Nat) : Hs08.Call := .input (ns.getD 0 0)
def c2 (ns : List Nat) : Hs08.Call := .work (ns.getD 0 0) (ns.getD 1 0)
def c3 (ns : List Nat) : Hs08.Call := .arrive (ns.getD 0 0)
def c4 (ns : List Nat) : Hs08.Call := .air
def c5 (ns : List Nat) : Hs08.Call := .crash (ns.getD 0 0)
def c6 (ns : List Nat) : Hs08.Call := .start (ns.getD 0 0)
/-- a refusal, or another list of numbers that is told and changes nothing -/
theorem JobAt.new {C : Cs} {col : Col} {A : Ad} {H : Hp} {a p : Addr} {s : Hs08.St} {u : HO} (J : JobAt C col A H a s) (h : H p = none) : JobAt C col A (upd H p u) a s := J.keep (S := []) (Kp.new h) (by simp) (Ext.refl H col)
theorem ok_call_begin (T : Txt K mg C.T C.K C.L C.W C.J) : GOk P w K mg base "call_begin" 7 ["job", "given"] (spCall C 1 c0) := by
  obtain ⟨f, fd, E1, F, B⟩ := T.g_call_begin.ex
  obtain ⟨f1, fd1, M_begin, B_begin, G_begin⟩ := ok_begin (P := P) (w := w) (base := base) T
  refine ⟨f, fd, E1, F.kp, B, F.ok c_call_begin (fun vs H Q E h => ?_) (fun cdv A outer s H vs Q E hr h => ?_)⟩
  · obtain ⟨a, g, ns, col, A, s, N, rfl, _⟩ := h
    rfl
  · obtain ⟨a, g, ns, col, A, s, N, rfl, hn, hg, J, hSa, hN, k⟩ := h
    have nd := c_call_begin.nd
    obtain ⟨b, rfl⟩ := len1 hn
    have hst : Hs08.step s (c0 [b]) = if b = 0 ∨ 5 < b then (s, [-1]) else (Hs08.fresh b, [0]) := rfl
    refine ⟨_, (pss_cons (ps_set (i := 2) nd rfl (Or.inl rfl) (pe_ix ix_list (pv 1) pe_int (fun _ _ => rfl)))
      (pss_cons (ps_if (PW.pt (pw_or (pt_cmpR op_lt (pv 2) pe_int (nomark _)) (pw_or1 (pt_cmpR op_gt (pv 2) (pe_num rfl T.k_LARGEST_BATCH) (nomark _))))) (pss_one (ps_ret (pe_lst (pa_cons (pe_num rfl T.k_OUT_OF_RANGE) pa_nil)))) pss_nil)
      (pss_cons (ps_expr (pe_meth (pv 0) T.Job.cl M_begin G_begin (hr.mono (by decide)) B_begin .nil pass0 (pa_cons (pv 2) pa_nil)))
      (pss_one (ps_ret (pe_lst (pa_cons pe_int pa_nil))))))), ?_⟩
    obtain ⟨hj, hjc⟩ := J.all .job
    refine ⟨_, rfl, g, _, _, vn b, rfl, rfl, SqL.of hg, at0, ?_⟩
    refine ⟨_, rfl, _, _, rfl, rfl, _, rfl, ite2 (fun c => ?_) (fun c => ?_)⟩
    · have c' : b = 0 ∨ 5 < b := by have := of_decide_eq_true c; omega
      rw [hst, if_pos c'] at k
      refine ⟨by show 1 ≤ sizeLine; decide, fun p hp => ?_⟩
      exact k _ col A p (J.new hp) upd_same ((JFr.refl _ _).fin hp)
    · have c1' : ¬ ((b : Int) < 1) := fun z => c (decide_eq_true z)
      refine ⟨_, rfl, _, _, rfl, rfl, _, rfl, ite2 (fun d => ?_) (fun d => ?_)⟩
      · have c' : b = 0 ∨ 5 < b := by have := of_decide_eq_true d; omega
        rw [hst, if_pos c'] at k
        refine ⟨by show 1 ≤ sizeLine; decide, fun p hp => ?_⟩
        exact k _ col A p (J.new hp) upd_same ((JFr.refl _ _).fin hp)
      · have d1' : ¬ ((5 : Int) < b) := fun z => d (decide_eq_true z)
        have c' : ¬ (b = 0 ∨ 5 < b) := by omega
        rw [hst, if_neg c'] at k
        refine ⟨_, rfl, a, A.dj, _, rfl, hj, jf_begin _ _ _ _ _ _, ?_⟩
        refine ⟨_, rfl, a, A.dj, _, col, b, rfl, hj, by show 6 ≤ 90; decide, fun _ _ _ _ _ => rfl, hjc, fun H' col' A' J' fr => ?_⟩
        refine ⟨by show 1 ≤ sizeLine; decide, fun p hp => ?_⟩
        exact k _ col' A' p (J'.new hp) upd_same (fr.fin hp)
theorem ok_call_input (T : Txt K mg C.T C.K C.L C.W C.J) : GOk P w K mg base "call_input" 1 ["job", "given"] (spCall C 1 c1) := by
  obtain ⟨f, fd, E1, F, B⟩ := T.g_call_input.ex
  refine ⟨f, fd, E1, F.kp, B, F.ok c_call_input (fun vs H Q E h => ?_) (fun cdv A outer s H vs Q E hr h => ?_)⟩
  · obtain ⟨a, g, ns, col, A, s, N, rfl, _⟩ := h
    rfl
  · obtain ⟨a, g, ns, col, A, s, N, rfl, hn, hg, J, hSa, hN, k⟩ := h
    have nd := c_call_input.nd
    obtain ⟨v, rfl⟩ := len1 hn
    have hst : Hs08.step s (c1 [v]) = if 1000 < v then (s, [-1]) else ({ s with input := s.input ++ [v] }, Hs08.ints [s.input.length + 1]) := rfl
    refine ⟨_, (pss_cons (ps_set (i := 2) nd rfl (Or.inl rfl) (pe_ix ix_list (pv 1) pe_int (fun _ _ => rfl)))
      (pss_cons (ps_if (pt_cmpR op_gt (pv 2) (pe_num rfl T.k_LARGEST_VALUE) (nomark _)) (pss_one (ps_ret (pe_lst (pa_cons (pe_num rfl T.k_OUT_OF_RANGE) pa_nil)))) pss_nil)
      (pss_cons (ps_expr (pe_bm PySem.F.plainAttrs_list PySem.F.slot_list_append PySem.F.type_list_append mt_append (pe_fld (pv 0) rfl) (pa_cons (pv 2) pa_nil)))
      (pss_one (ps_ret (pe_lst (pa_cons (pe_callB call_len_seq (by rfl) T.b_len PySem.boot_len (pa_cons (pe_fld (pv 0) rfl) pa_nil)) pa_nil))))))), ?_⟩
    obtain ⟨hj, hjc⟩ := J.all .job
    obtain ⟨hnu, hnc⟩ := J.all .nu
    refine ⟨_, rfl, g, _, _, vn v, rfl, rfl, SqL.of hg, at0, ?_⟩
    refine ⟨_, rfl, _, _, rfl, rfl, _, rfl, ite2 (fun c => ?_) (fun c => ?_)⟩
    · have c' : 1000 < v := by have := of_decide_eq_true c; omega
      rw [hst, if_pos c'] at k
      refine ⟨by show 1 ≤ sizeLine; decide, fun p hp => ?_⟩
      exact k _ col A p (J.new hp) upd_same ((JFr.refl _ _).fin hp)
    · have c1' : ¬ ((1000 : Int) < v) := fun z => c (decide_eq_true z)
      have c' : ¬ 1000 < v := by omega
      rw [hst, if_neg c'] at k
      have hsz := hSa.szi
      refine ⟨_, rfl, a, C.J, A.dj, _, _, rfl, hj, T.Job.cl, T.n_Job_numbers, jf_numbers _ _ _ _ _ _, .inl ⟨rfl, _, SqL.of hnu⟩, _, rfl, A.nu, _, _, rfl, rfl, hnu, ?_, ?_⟩
      · rw [List.length_map]
        exact Nat.lt_of_le_of_lt hsz (Nat.lt_of_lt_of_le hN (by decide))
      · have kn : Kp [A.nu] H (upd H A.nu (.lst (s.input.map vn ++ [vn v]))) := Kp.upd (by simp) hnu (by intro xs z; cases z)
        have J1 : JobAt C col A (upd H A.nu (.lst (s.input.map vn ++ [vn v]))) a { s with input := s.input ++ [v] } :=
          J.change .nu kn (by intro b hb; simp only [List.mem_cons, List.not_mem_nil, or_false] at hb; rw [hb]; exact hnc) (Ext.refl H col)
            (fun c hc => ⟨by cases c <;> first | rfl | trivial | exact fun _ => rfl | exact ⟨rfl, rfl, rfl, rfl, rfl⟩ | exact absurd rfl hc, sameA_refl A c⟩)
            ⟨by rw [upd_same, List.map_append]; rfl, hnc⟩
        have fr1 := JFr.of kn (col := col) (by intro b hb; simp only [List.mem_cons, List.not_mem_nil, or_false] at hb; rw [hb, hnc]; simp) (Ext.refl H col)
        have hj1 := (J1.all .job).1
        refine ⟨_, rfl, a, C.J, A.dj, _, _, rfl, hj1, T.Job.cl, T.n_Job_numbers, jf_numbers _ _ _ _ _ _, A.nu, _, rfl, .inl (SqL.of upd_same), by show 1 ≤ sizeLine; decide, fun p hp => ?_⟩
        refine k _ col A p (J1.new hp) ?_ (fr1.fin hp)
        rw [upd_same]
        have el : ((s.input.map vn ++ [vn v]).length : Int) = ((s.input.length + 1 : Nat) : Int) := by rw [List.length_append, List.length_map]; rfl
        rw [el]
        rfl
end
end Sw

namespace Sw
open PySem PySem.Spec PyProof.Rows L2
/-! ### workers by their places -/
theorem worker_set {s : Hs08.St} {i : Nat} {x : Hs08.Worker} (h : i < s.workers.length) : Hs08.worker (Hs08.setWorker s i x) i = x := by
  unfold Hs08.worker Hs08.setWorker
  show (s.workers.set i x).getD i Hs08.down = x
  rw [List.getD_eq_getElem?_getD, List.getElem?_set_self h]
  rfl
theorem worker_set_ne {s : Hs08.St} {i j : Nat} {x : Hs08.Worker} (h : j ≠ i) : Hs08.worker (Hs08.setWorker s i x) j = Hs08.worker s j := by
  unfold Hs08.worker Hs08.setWorker
  show (s.workers.set i x).getD j Hs08.down = _
  rw [List.getD_eq_getElem?_getD, List.getElem?_set_ne (fun z => h z.symm), List.getD_eq_getElem?_getD]
theorem sameS_setWorker (s : Hs08.St) (i : Nat) (x : Hs08.Worker) (c : Part) (h : c ≠ .wk i) : SameS s (Hs08.setWorker s i x) c := by
  cases c with
  | wk j => exact fun _ => worker_set_ne fun z => h (by rw [z])
  | job => rfl
  | nu => rfl
  | lo => trivial
  | ke => exact ⟨rfl, rfl, rfl, rfl, rfl⟩
  | lg j => exact fun _ => rfl
  | wo => trivial
  | ai => rfl
/-- two parts are changed -/
theorem JobAt.change2 {C : Cs} {col col' : Col} {A A' : Ad} {H H' : Hp} {a : Addr} {s s' : Hs08.St} {S : List Addr} (d d' : Part) (J : JobAt C col A H a s) (k : Kp S H H') (hS : ∀ b ∈ S, col b = some d ∨ col b = some d') (x : Ext H col col')
    (e : ∀ c, c ≠ d → c ≠ d' → SameS s s' c ∧ SameA A A' c) (n : Comp C col' A' H' a s' d) (n' : Comp C col' A' H' a s' d') : JobAt C col' A' H' a s' := ⟨fun c => by
  by_cases h : c = d
  · rw [h]; exact n
  · by_cases h' : c = d'
    · rw [h']; exact n'
    · refine (J.all c).keep k (fun b hb z => ?_) x (e c h h').1 (e c h h').2
      rcases hS b hb with q | q
      · rw [q] at z; exact h (Option.some.inj z).symm
      · rw [q] at z; exact h' (Option.some.inj z).symm⟩
/-- worker i has changed -/
theorem JobAt.worker {C : Cs} {col : Col} {A : Ad} {H H' : Hp} {a nn' gl' : Addr} {s : Hs08.St} {i : Nat} {x' : Hs08.Worker} (J : JobAt C col A H a s) (hi : i < 3) (hl : s.workers.length = 3) (R : WkTo C.W H H' (A.w i) (A.n i) (A.g i) nn' gl' x') :
    ∃ col' A', JobAt C col' A' H' a (Hs08.setWorker s i x') ∧ JFr col H col' H' ∧ A'.w = A.w ∧ A'.ai = A.ai := by
  obtain ⟨h1, h2, h3, h4⟩ := J.all (.wk i) hi
  have hS : ∀ b ∈ [A.w i, A.n i, A.g i], col b = some (.wk i) := fun b hb => by
    simp only [List.mem_cons, List.not_mem_nil, or_false] at hb
    rcases hb with rfl | rfl | rfl
    · exact h2
    · exact h3
    · exact h4
  have x : Ext H col (paint col [nn', gl'] (some (.wk i))) := ext_paint fun b hb => by
    simp only [List.mem_cons, List.not_mem_nil, or_false] at hb
    rcases hb with rfl | rfl
    · rcases R.nw with z | z
      · exact .inr (by rw [z]; exact h3)
      · exact .inl z
    · rcases R.gw with z | z
      · exact .inr (by rw [z]; exact h4)
      · exact .inl z
  obtain ⟨dx, a1⟩ := h1.ex
  refine ⟨paint col [nn', gl'] (some (.wk i)), { A with n := fun j => if j = i then nn' else A.n j, g := fun j => if j = i then gl' else A.g j }, ?_, JFr.of R.kp (fun b hb z => by rw [hS b hb] at z; cases z) x, rfl, rfl⟩
  refine J.change (.wk i) R.kp hS x (fun c hc => ⟨sameS_setWorker s i x' c hc, ?_⟩) fun _ => ⟨?_, ?_, ?_, ?_⟩
  · cases c with
    | wk j =>
      have hj : j ≠ i := fun z => hc (by rw [z])
      exact ⟨rfl, if_neg hj, if_neg hj⟩
    | job => exact ⟨rfl, rfl, rfl, rfl, rfl, rfl⟩
    | nu => rfl
    | lo => exact ⟨rfl, rfl⟩
    | ke => exact ⟨rfl, rfl⟩
    | lg j => exact ⟨rfl, rfl⟩
    | wo => exact ⟨rfl, rfl⟩
    | ai => rfl
  · rw [worker_set (by rw [hl]; exact hi)]
    show WkAt C.W H' (A.w i) (if i = i then nn' else A.n i) (if i = i then gl' else A.g i) x'
    rw [if_pos rfl, if_pos rfl]
    exact R.at_
  · show paint col [nn', gl'] (some (.wk i)) (A.w i) = some (.wk i)
    rw [x _ (live a1)]; exact h2
  · show paint col [nn', gl'] (some (.wk i)) (if i = i then nn' else A.n i) = some (.wk i)
    rw [if_pos rfl]; exact paint_in (by simp)
  · show paint col [nn', gl'] (some (.wk i)) (if i = i then gl' else A.g i) = some (.wk i)
    rw [if_pos rfl]; exact paint_in (by simp)
/-- a worker in another's place -/
theorem JobAt.newWorker {C : Cs} {col : Col} {A : Ad} {H H' : Hp} {a p nn gl : Addr} {s : Hs08.St} {i : Nat} {x : Hs08.Worker} (J : JobAt C col A H a s) (hi : i < 3) (hl : s.workers.length = 3) (W : WkAt C.W H' p nn gl x)
    (f1 : H p = none) (f2 : H nn = none) (f3 : H gl = none) (hw : H' A.wo = some (.lst ([V.ref (A.w 0), V.ref (A.w 1), V.ref (A.w 2)].set i (.ref p)))) (k : Kp [A.wo] H H') :
    ∃ col' A', JobAt C col' A' H' a (Hs08.setWorker s i x) ∧ JFr col H col' H' := by
  obtain ⟨h1, h2⟩ := J.all .wo
  have xx : Ext H col (paint col [p, nn, gl] (some (.wk i))) := ext_paint fun b hb => by
    simp only [List.mem_cons, List.not_mem_nil, or_false] at hb
    rcases hb with rfl | rfl | rfl
    · exact .inl f1
    · exact .inl f2
    · exact .inl f3
  refine ⟨paint col [p, nn, gl] (some (.wk i)), { A with w := fun j => if j = i then p else A.w j, n := fun j => if j = i then nn else A.n j, g := fun j => if j = i then gl else A.g j }, ?_, JFr.of k (fun b hb z => by simp only [List.mem_cons, List.not_mem_nil, or_false] at hb; rw [hb, h2] at z; cases z) xx⟩
  refine J.change2 .wo (.wk i) k (fun b hb => .inl (by simp only [List.mem_cons, List.not_mem_nil, or_false] at hb; rw [hb]; exact h2)) xx (fun c hc hc' => ⟨sameS_setWorker s i x c hc', ?_⟩) ⟨?_, ?_⟩ fun _ => ⟨?_, ?_, ?_, ?_⟩
  · cases c with
    | wk j =>
      have hj : j ≠ i := fun z => hc' (by rw [z])
      exact ⟨if_neg hj, if_neg hj, if_neg hj⟩
    | job => exact ⟨rfl, rfl, rfl, rfl, rfl, rfl⟩
    | nu => rfl
    | lo => exact ⟨rfl, rfl⟩
    | ke => exact ⟨rfl, rfl⟩
    | lg j => exact ⟨rfl, rfl⟩
    | wo => exact absurd rfl hc
    | ai => rfl
  · rw [hw]
    match i, hi with
    | 0, _ => rfl
    | 1, _ => rfl
    | 2, _ => rfl
  · show paint col [p, nn, gl] (some (.wk i)) A.wo = some .wo
    rw [xx _ (live h1)]; exact h2
  · rw [worker_set (by rw [hl]; exact hi)]
    show WkAt C.W H' (if i = i then p else A.w i) (if i = i then nn else A.n i) (if i = i then gl else A.g i) x
    rw [if_pos rfl, if_pos rfl, if_pos rfl]
    exact W
  · show paint col [p, nn, gl] (some (.wk i)) (if i = i then p else A.w i) = some (.wk i)
    rw [if_pos rfl]; exact paint_in (by simp)
  · show paint col [p, nn, gl] (some (.wk i)) (if i = i then nn else A.n i) = some (.wk i)
    rw [if_pos rfl]; exact paint_in (by simp)
  · show paint col [p, nn, gl] (some (.wk i)) (if i = i then gl else A.g i) = some (.wk i)
    rw [if_pos rfl]; exact paint_in (by simp)
theorem pick3 {α : Type} {f : Nat → α} {i : Nat} (h : i < 3) : [f 0, f 1, f 2][i]? = some (f i) := by
  match i, h with
  | 0, _ => rfl
  | 1, _ => rfl
  | 2, _ => rfl
theorem isWorker_iff {i : Nat} : Hs08.isWorker i = true ↔ 1 ≤ i ∧ i ≤ 3 := by
  unfold Hs08.isWorker
  rw [Bool.and_eq_true, decide_eq_true_iff, decide_eq_true_iff]
def spIsWorker : Sp := fun vs H Q _ => ∃ i : Nat, vs = [vn i] ∧ Q (.bl (Hs08.isWorker i)) H
def putsW (s : Hs08.St) (i : Nat) (u : Bool) : Hs08.St × List Int := if Hs08.isWorker i = false then (s, [-1]) else if (Hs08.worker s (i - 1)).up = u then (s, [-6]) else (Hs08.setWorker s (i - 1) { Hs08.down with up := u }, [0])
def spPutWorker (C : Cs) : Sp := fun vs H Q _ => ∃ (a : Addr) (i : Nat) (u : Bool) (col : Col) (A : Ad) (s : Hs08.St), vs = [.ref a, vn i, .bl u] ∧ JobAt C col A H a s ∧ s.workers.length = 3 ∧
  ∀ (H' : Hp) (col' : Col) (A' : Ad) (p : Addr), JobAt C col' A' H' a (putsW s i u).1 → H' p = some (.lst ((putsW s i u).2.map V.int)) → JFp col H col' H' p → Q (.ref p) H'
theorem wf_ne_jf {D E dx dy : Addr} {u : Bool} {e pl to : Nat} {nn : Addr} {n : Nat} {gl : Addr} {gd : Nat} {en : Bool} {b : Nat} {nu lo ke wo ai : Addr} : HO.ins D dx (wf u e pl to nn n gl gd en) ≠ HO.ins E dy (jf b nu lo ke wo ai) := by
  intro z
  injection z with _ _ z
  have z2 : (wf u e pl to nn n gl gd en).length = (jf b nu lo ke wo ai).length := by rw [z]
  exact absurd z2 (by show ¬ (9 = 6); decide)
section
variable {P : Program} {w : World} {K : PySem.W.Frag} {mg : Str → Option Value} {base : Heap} {C : Cs}
theorem ok_is_worker (T : Txt K mg C.T C.K C.L C.W C.J) : GOk P w K mg base "is_worker" 1 ["i"] spIsWorker := by
  obtain ⟨f, fd, E1, F, B⟩ := T.g_is_worker.ex
  refine ⟨f, fd, E1, F.kp, B, F.ok c_is_worker (fun vs H Q E h => ?_) (fun cdv A outer s H vs Q E hr h => ?_)⟩
  · obtain ⟨i, rfl, _⟩ := h
    rfl
  · obtain ⟨i, rfl, k⟩ := h
    refine ⟨_, (pss_one (ps_ret (pe_and (pe_cmpR op_ge (pv 0) pe_int (nomark _)) (pe_one (pe_cmpR op_le (pv 0) (pe_num rfl T.k_WORKER_COUNT) (nomark _)))))), ?_⟩
    refine ⟨_, rfl, _, _, rfl, rfl, _, rfl, ?_⟩
    refine and_rest (decide ((i : Int) ≤ 3)) (Hs08.isWorker i) ?_ (fun Q' hQ => ⟨_, rfl, _, _, rfl, rfl, hQ⟩) k
    unfold Hs08.isWorker
    rw [Bool.eq_iff_iff, Bool.and_eq_true, Bool.and_eq_true, decide_eq_true_iff, decide_eq_true_iff, decide_eq_true_iff, decide_eq_true_iff]
    omega
theorem ok_put_worker (T : Txt K mg C.T C.K C.L C.W C.J) : GOk P w K mg base "put_worker" 6 ["job", "i", "up"] (spPutWorker C) := by
  obtain ⟨f, fd, E1, F, B⟩ := T.g_put_worker.ex
  obtain ⟨f1, fd1, E_is_worker, K_is_worker, B_is_worker, G_is_worker⟩ := ok_is_worker (P := P) (w := w) (base := base) T
  obtain ⟨f2, fd2, M_Worker, B_Worker, G_Worker⟩ := ok_Worker_init (P := P) (w := w) (base := base) T
  refine ⟨f, fd, E1, F.kp, B, F.ok c_put_worker (fun vs H Q E h => ?_) (fun cdv A outer s H vs Q E hr h => ?_)⟩
  · obtain ⟨a, i, u, col, A, s, rfl, _⟩ := h
    rfl
  · obtain ⟨a, i, u, col, A, s, rfl, J, hlen, k⟩ := h
    refine ⟨_, (pss_cons (ps_if (pt_not (pt_val (pe_call G_is_worker (hr.mono (by decide)) rfl E_is_worker K_is_worker B_is_worker .nil pass0 (pa_cons (pv 1) pa_nil)))) (pss_one (ps_ret (pe_lst (pa_cons (pe_num rfl T.k_OUT_OF_RANGE) pa_nil)))) pss_nil)
      (pss_cons (ps_if (pt_cmpR op_eq (pe_fld (pe_ix ix_list (pe_fld (pv 0) rfl) (pe_op op_sub (pv 1) pe_int) (fun _ _ => rfl)) rfl) (pv 2) (nomark _)) (pss_one (ps_ret (pe_lst (pa_cons (pe_num rfl T.k_WRONG_WORKER_STATE) pa_nil)))) pss_nil)
      (pss_cons (ps_asg (pe_make M_Worker G_Worker (hr.mono (by decide)) rfl T.Worker.mgC B_Worker .nil pass0 (pa_cons (pv 2) pa_nil)) (pg_sub (pe_fld (pv 0) rfl) (pe_op op_sub (pv 1) pe_int) set_list))
      (pss_one (ps_ret (pe_lst (pa_cons pe_int pa_nil))))))), ?_⟩
    obtain ⟨hj, hjc⟩ := J.all .job
    obtain ⟨hwo, hwc⟩ := J.all .wo
    refine ⟨_, rfl, i, rfl, _, rfl, ?_⟩
    cases hI : Hs08.isWorker i with
    | false =>
      refine iteT ?_
      have e : putsW s i u = (s, [-1]) := by unfold putsW; rw [if_pos hI]
      rw [e] at k
      refine ⟨by show 1 ≤ sizeLine; decide, fun p hp => ?_⟩
      exact k _ col A p (J.new hp) upd_same ((JFr.refl _ _).fin hp)
    | true =>
      refine iteF ?_
      obtain ⟨i1, i3⟩ := isWorker_iff.mp hI
      obtain ⟨m, rfl⟩ : ∃ m, i = m + 1 := ⟨i - 1, by omega⟩
      have hm : m < 3 := by omega
      obtain ⟨W, hc1, _, _⟩ := J.all (.wk m) hm
      obtain ⟨dw, hw⟩ := W.ex
      refine ⟨_, rfl, a, C.J, A.dj, _, _, rfl, hj, T.Job.cl, T.n_Job_workers, jf_workers _ _ _ _ _ _, _, rfl, _, _, rfl, rfl, A.wo, _, _, _, rfl, rfl, SqL.of hwo, at_of (j := m) (by omega) (pick3 (f := fun k => V.ref (A.w k)) hm), A.w m, C.W, dw, _, _, rfl, hw, T.Worker.cl, T.n_Worker_up, wf_up _ _ _ _ _ _ _ _ _, _, rfl, rfl, _, rfl, ite2 (fun c => ?_) (fun c => ?_)⟩
      · have c' : (Hs08.worker s m).up = u := V.bl.inj (of_decide_eq_true c)
        have e : putsW s (m + 1) u = (s, [-6]) := by unfold putsW; rw [if_neg (by rw [hI]; decide), if_pos (by rw [Nat.add_sub_cancel]; exact c')]
        rw [e] at k
        refine ⟨by show 1 ≤ sizeLine; decide, fun p hp => ?_⟩
        exact k _ col A p (J.new hp) upd_same ((JFr.refl _ _).fin hp)
      · have c' : ¬ (Hs08.worker s m).up = u := fun z => c (decide_eq_true (by rw [z]))
        have e : putsW s (m + 1) u = (Hs08.setWorker s m { Hs08.down with up := u }, [0]) := by unfold putsW; rw [if_neg (by rw [hI]; decide), if_neg (by rw [Nat.add_sub_cancel]; exact c'), Nat.add_sub_cancel]
        rw [e] at k
        refine ⟨_, rfl, fun x dx nx ndx _ => ?_⟩
        refine ⟨x, dx, u, rfl, upd_same, fun H1 q1 q2 f1 f2 W1 k1 => ⟨rfl, ?_⟩⟩
        have s1 : Same H H1 := made nx ndx k1
        have f1' := made_free f1
        have f2' := made_free f2
        have hwo1 := s1 _ _ hwo
        obtain ⟨dx1, hx1⟩ := W1.ex
        obtain ⟨_, _, hq1, _⟩ := W1.nx
        refine ⟨_, rfl, a, C.J, A.dj, _, _, rfl, s1 _ _ hj, T.Job.cl, T.n_Job_workers, jf_workers _ _ _ _ _ _, _, rfl, _, _, rfl, rfl, A.wo, _, _, m, rfl, rfl, hwo1, ?_, ?_⟩
        · unfold ixN
          rw [if_pos (by omega), if_pos (by show ((m + 1 : Nat) : Int) - 1 < 3; omega)]
          exact congrArg some (by omega)
        · have kw : Kp [A.wo] H (upd H1 A.wo (.lst ([V.ref (A.w 0), V.ref (A.w 1), V.ref (A.w 2)].set m (.ref x)))) := (Same.kp s1 _).trans (Kp.upd (by simp) hwo1 (by intro xs z; cases z))
          have nx1 : x ≠ A.wo := (ne_of_none hwo nx).symm
          have nq1 : q1 ≠ A.wo := (ne_of_none hwo f1').symm
          have nq2 : q2 ≠ A.wo := (ne_of_none hwo f2').symm
          have W2 := W1.keep (Kp.upd (S := [A.wo]) (u := .lst ([V.ref (A.w 0), V.ref (A.w 1), V.ref (A.w 2)].set m (.ref x))) (by simp) hwo1 (by intro xs z; cases z)) (by simpa using nx1) (by simpa using nq1) (by simpa using nq2)
          obtain ⟨col', A', J', fr⟩ := J.newWorker hm hlen W2 nx f1' f2' upd_same kw
          refine ⟨by show 1 ≤ sizeLine; decide, fun p hp => ?_⟩
          exact k _ col' A' p (J'.new hp) upd_same (fr.fin hp)
theorem ok_call_crash (T : Txt K mg C.T C.K C.L C.W C.J) : GOk P w K mg base "call_crash" 7 ["job", "given"] (spCall C 1 c5) := by
  obtain ⟨f, fd, E1, F, B⟩ := T.g_call_crash.ex
  obtain ⟨f1, fd1, E_put_worker, K_put_worker, B_put_worker, G_put_worker⟩ := ok_put_worker (P := P) (w := w) (base := base) T
  refine ⟨f, fd, E1, F.kp, B, F.ok c_call_crash (fun vs H Q E h => ?_) (fun cdv A outer s H vs Q E hr h => ?_)⟩
  · obtain ⟨a, g, ns, col, A, s, N, rfl, _⟩ := h
    rfl
  · obtain ⟨a, g, ns, col, A, s, N, rfl, hn, hg, J, hSa, hN, k⟩ := h
    obtain ⟨i, rfl⟩ := len1 hn
    have hst : Hs08.step s (c5 [i]) = putsW s i false := rfl
    rw [hst] at k
    refine ⟨_, (pss_one (ps_ret (pe_call G_put_worker (hr.mono (by decide)) rfl E_put_worker K_put_worker B_put_worker .nil pass0 (pa_cons (pv 0) (pa_cons (pe_ix ix_list (pv 1) pe_int (fun _ _ => rfl)) (pa_cons pe_bl pa_nil)))))), ?_⟩
    refine ⟨_, rfl, _, rfl, g, _, _, vn i, rfl, rfl, SqL.of hg, at0, ?_⟩
    exact ⟨a, i, false, col, A, s, rfl, J, hSa.len, k⟩
theorem ok_call_start (T : Txt K mg C.T C.K C.L C.W C.J) : GOk P w K mg base "call_start" 7 ["job", "given"] (spCall C 1 c6) := by
  obtain ⟨f, fd, E1, F, B⟩ := T.g_call_start.ex
  obtain ⟨f1, fd1, E_put_worker, K_put_worker, B_put_worker, G_put_worker⟩ := ok_put_worker (P := P) (w := w) (base := base) T
  refine ⟨f, fd, E1, F.kp, B, F.ok c_call_start (fun vs H Q E h => ?_) (fun cdv A outer s H vs Q E hr h => ?_)⟩
  · obtain ⟨a, g, ns, col, A, s, N, rfl, _⟩ := h
    rfl
  · obtain ⟨a, g, ns, col, A, s, N, rfl, hn, hg, J, hSa, hN, k⟩ := h
    obtain ⟨i, rfl⟩ := len1 hn
    have hst : Hs08.step s (c6 [i]) = putsW s i true := rfl
    rw [hst] at k
    refine ⟨_, (pss_one (ps_ret (pe_call G_put_worker (hr.mono (by decide)) rfl E_put_worker K_put_worker B_put_worker .nil pass0 (pa_cons (pv 0) (pa_cons (pe_ix ix_list (pv 1) pe_int (fun _ _ => rfl)) (pa_cons pe_bl pa_nil)))))), ?_⟩
    refine ⟨_, rfl, _, rfl, g, _, _, vn i, rfl, rfl, SqL.of hg, at0, ?_⟩
    exact ⟨a, i, true, col, A, s, rfl, J, hSa.len, k⟩
end
end Sw

namespace Sw
open PySem PySem.Spec PyProof.Rows L2
theorem erase_map {α β : Type} (f : α → β) : ∀ (l : List α) (q : Nat), (l.map f).eraseIdx q = (l.eraseIdx q).map f
  | [], _ => rfl
  | _ :: _, 0 => rfl
  | x :: l, q + 1 => congrArg (f x :: ·) (erase_map f l q)
theorem set_getD {α : Type} (d : α) : ∀ (l : List α) (i : Nat), l.set i (l.getD i d) = l
  | [], _ => rfl
  | _ :: _, 0 => rfl
  | x :: l, i + 1 => congrArg (x :: ·) (set_getD d l i)
theorem told_len (r : Hs08.Req) : (Hs08.reqTold r).length ≤ 6 := by cases r <;> simp [Hs08.reqTold]
theorem flat_len : ∀ l : List Hs08.Req, (l.flatMap Hs08.reqTold).length ≤ 6 * l.length
  | [] => by simp
  | r :: l => by
    have h1 := told_len r
    have h2 := flat_len l
    rw [List.flatMap_cons, List.length_append, List.length_cons]
    omega
theorem take_succ {α : Type} {l : List α} {i : Nat} {x : α} (h : l[i]? = some x) : l.take (i + 1) = l.take i ++ [x] := by
  rw [List.take_add_one, h]; rfl
/-- the answers do not hang on the air, nor on the workers -/
theorem serves_air (s : Hs08.St) (x : List Hs08.Req) (r : Hs08.Req) : (Hs08.serves { s with air := x } r).2 = (Hs08.serves s r).2 := by
  cases r with
  | begin_ =>
    unfold Hs08.serves; dsimp only
    cases s.tx with
    | none => rfl
    | some t => dsimp only; split <;> rfl
  | log e n j =>
    unfold Hs08.serves; dsimp only
    split
    · rfl
    · cases s.tx with
      | none => dsimp only; split <;> rfl
      | some t => dsimp only; split <;> (try split) <;> rfl
  | add e n j q v => rw [serves_add, serves_add]; rfl
  | commit e n p q =>
    unfold Hs08.serves; dsimp only
    split
    · rfl
    · cases s.tx with
      | none => rfl
      | some t => dsimp only; split <;> rfl
theorem serves_workers (s : Hs08.St) (x : List Hs08.Worker) (r : Hs08.Req) : (Hs08.serves { s with workers := x } r).2 = (Hs08.serves s r).2 := by
  cases r with
  | begin_ =>
    unfold Hs08.serves; dsimp only
    cases s.tx with
    | none => rfl
    | some t => dsimp only; split <;> rfl
  | log e n j =>
    unfold Hs08.serves; dsimp only
    split
    · rfl
    · cases s.tx with
      | none => dsimp only; split <;> rfl
      | some t => dsimp only; split <;> (try split) <;> rfl
  | add e n j q v => rw [serves_add, serves_add]; rfl
  | commit e n p q =>
    unfold Hs08.serves; dsimp only
    split
    · rfl
    · cases s.tx with
      | none => rfl
      | some t => dsimp only; split <;> rfl
theorem vnl (l : List Nat) : l.map vn = (Hs08.ints l).map V.int := by
  unfold Hs08.ints
  rw [List.map_map]
  rfl
theorem ansT_head (b : Bool) (a : Hs08.Ans) : ∃ l, ansT b a = vn (Hs08.ansTold a) :: l := by
  cases a with
  | ok e p s => cases b <;> exact ⟨_, rfl⟩
  | wait => exact ⟨_, rfl⟩
  | out => exact ⟨_, rfl⟩
/-- how a request goes its way -/
def sends (s : Hs08.St) (i how : Nat) (r : Hs08.Req) : Hs08.St := match how with
  | 0 => Hs08.setWorker (Hs08.serves s r).1 i (Hs08.hears (Hs08.worker (Hs08.serves s r).1 i) r (Hs08.serves s r).2)
  | 1 => (Hs08.serves s r).1
  | 2 => s
  | _ => { s with air := s.air ++ [r] }
def behind (s : Hs08.St) (how : Nat) (r : Hs08.Req) : List Nat := if how = 0 then [Hs08.ansTold (Hs08.serves s r).2] else []
def spSend (C : Cs) : Sp := fun vs H Q _ => ∃ (a t : Addr) (i how : Nat) (col : Col) (A : Ad) (s : Hs08.St) (r : Hs08.Req) (N : Nat), vs = [.ref a, .ref (A.w i), .ref t, vn how] ∧ i < 3 ∧ how ≤ 3 ∧ JobAt C col A H a s ∧ Sane s N ∧ N < 1000 ∧ reqOk r ∧ H t = some (.tup (airT r)) ∧
  ∀ (H' : Hp) (col' : Col) (A' : Ad) (p : Addr), JobAt C col' A' H' a (sends s i how r) → H' p = some (.lst ((behind s how r).map vn)) → JFp col H col' H' p → Q (.ref p) H'
/-- the air has changed -/
theorem JobAt.airs {C : Cs} {col : Col} {A : Ad} {H : Hp} {a : Addr} {s : Hs08.St} {ts : List Addr} {l : List Hs08.Req} (J : JobAt C col A H a s) (h : Tups (upd H A.ai (.lst (ts.map V.ref))) ts (l.map airT)) :
    JobAt C col A (upd H A.ai (.lst (ts.map V.ref))) a { s with air := l } ∧ JFr col H col (upd H A.ai (.lst (ts.map V.ref))) := by
  obtain ⟨⟨ts0, h1, _⟩, h2⟩ := J.all .ai
  have k : Kp [A.ai] H (upd H A.ai (.lst (ts.map V.ref))) := Kp.upd (by simp) h1 (by intro xs z; cases z)
  have hS : ∀ b ∈ [A.ai], col b = some .ai := fun b hb => by simp only [List.mem_cons, List.not_mem_nil, or_false] at hb; rw [hb]; exact h2
  exact ⟨J.change .ai k hS (Ext.refl H col) (fun c hc => ⟨by cases c <;> first | rfl | trivial | exact fun _ => rfl | exact ⟨rfl, rfl, rfl, rfl, rfl⟩ | exact absurd rfl hc, sameA_refl A c⟩) ⟨⟨ts, upd_same, h⟩, h2⟩,
    JFr.of k (fun b hb z => by rw [hS b hb] at z; cases z) (Ext.refl H col)⟩
section
variable {P : Program} {w : World} {K : PySem.W.Frag} {mg : Str → Option Value} {base : Heap} {C : Cs}
theorem ok_call_air (T : Txt K mg C.T C.K C.L C.W C.J) : GOk P w K mg base "call_air" 1 ["job", "given"] (spCall C 0 c4) := by
  obtain ⟨f, fd, E1, F, B⟩ := T.g_call_air.ex
  refine ⟨f, fd, E1, F.kp, B, F.ok c_call_air (fun vs H Q E h => ?_) (fun cdv A outer s H vs Q E hr h => ?_)⟩
  · obtain ⟨a, g, ns, col, A, s, N, rfl, _⟩ := h
    rfl
  · obtain ⟨a, g, ns, col, A, s, N, rfl, hn, hg, J, hSa, hN, k⟩ := h
    have nd := c_call_air.nd
    have hst : Hs08.step s (c4 ns) = (s, Hs08.ints (s.air.length :: s.air.flatMap Hs08.reqTold)) := rfl
    rw [hst] at k
    obtain ⟨hj, hjc⟩ := J.all .job
    obtain ⟨⟨ts, hai, hts⟩, haic⟩ := J.all .ai
    refine ⟨_, (pss_cons (ps_set (i := 2) nd rfl (Or.inl rfl) (pe_lst (pa_cons (pe_callB call_len_seq (by rfl) T.b_len PySem.boot_len (pa_cons (pe_fld (pv 0) rfl) pa_nil)) pa_nil)))
      (pss_cons (ps_for PassesOwn.never rfl (pi_list (pe_fld (pv 0) rfl)) (pg_name (i := 3) nd rfl (Or.inl rfl)) (pss_one (ps_expr (pe_bm PySem.F.plainAttrs_list PySem.F.slot_list_extend PySem.F.type_list_extend mt_extT (pv 2) (pa_cons (pv 3) pa_nil)))))
      (pss_one (ps_ret (pv 2))))), ?_⟩
    have hlen : ts.length = s.air.length := by rw [hts.len, List.length_map]
    refine ⟨_, rfl, a, C.J, A.dj, _, _, rfl, hj, T.Job.cl, T.n_Job_air, jf_air _ _ _ _ _ _, A.ai, _, rfl, .inl (SqL.of hai), by show 1 ≤ sizeLine; decide, fun p hp => ?_⟩
    have el : ((ts.map V.ref).length : Int) = ((s.air.length : Nat) : Int) := by rw [List.length_map, hlen]
    have s1 : Same H (upd H p (.lst [V.int ((ts.map V.ref).length : Int)])) := same_new hp
    have p1 : (upd H p (.lst [V.int ((ts.map V.ref).length : Int)])) p = some (.lst [vn s.air.length]) := by rw [upd_same, el]
    generalize upd H p (.lst [V.int ((ts.map V.ref).length : Int)]) = H1 at s1 p1 ⊢
    have nap : A.ai ≠ p := ne_of_none hai hp
    refine ⟨_, rfl, a, C.J, A.dj, _, _, rfl, s1 _ _ hj, T.Job.cl, T.n_Job_air, jf_air _ _ _ _ _ _, A.ai, rfl, ⟨_, SqL.of (s1 _ _ hai)⟩, for_list (K := K) (a := A.ai) (xs := ts.map V.ref)
      (fun i σ H' => ∃ v : Option V, σ = [some (.ref a), some (.ref g), some (.ref p), v] ∧ H' p = some (.lst ((s.air.length :: (s.air.take i).flatMap Hs08.reqTold).map vn)) ∧ Kp [p] H1 H')
      ⟨none, rfl, p1, Kp.refl _ _⟩ (fun i σ H' _ ⟨_, _, _, kk⟩ => SqL.of (kk.keep _ _ (s1 _ _ hai) (by simpa using nap))) ?_ ?_⟩
    · rintro i y σ H' hi ⟨v, rfl, hp', kk⟩
      obtain ⟨t, ht, rfl⟩ : ∃ t, ts[i]? = some t ∧ y = V.ref t := by
        rw [List.getElem?_map] at hi
        cases e : ts[i]? with
        | none => rw [e] at hi; cases hi
        | some t => rw [e] at hi; exact ⟨t, rfl, (Option.some.inj hi).symm⟩
      have hit : i < ts.length := (List.getElem?_eq_some_iff.mp ht).1
      obtain ⟨r, hr'⟩ : ∃ r, s.air[i]? = some r := ⟨_, List.getElem?_eq_getElem (by omega)⟩
      have htt : H' t = some (.tup (airT r)) := kk.tups _ _ (s1 _ _ (hts.at_ i t (airT r) ht (by rw [List.getElem?_map, hr']; rfl)))
      have hsz := flat_len (s.air.take i)
      have hsz2 : (s.air.take i).length ≤ s.air.length := by rw [List.length_take]; exact Nat.min_le_right _ _
      have hsz3 := hSa.sza
      have hsz4 := told_len r
      refine ⟨_, rfl, .inl ⟨rfl, _, SqL.of hp'⟩, _, rfl, p, t, _, _, rfl, rfl, hp', SqT.of htt, ?_, ?_⟩
      · unfold airT
        rw [List.length_map, List.length_map, List.length_cons]
        have : (16777216 : Nat) = sizeLine := rfl
        omega
      · refine ⟨_, rfl, ?_, kk.trans (Kp.upd (by simp) hp' (by intro xs z; cases z))⟩
        rw [upd_same, take_succ hr', List.flatMap_append, List.flatMap_cons, List.flatMap_nil, List.append_nil, List.map_cons, List.map_cons, List.map_append]
        rfl
    · rintro σ H' ⟨v, rfl, hp', kk⟩
      refine ⟨_, rfl, ?_⟩
      rw [List.length_map, hlen, List.take_length, vnl] at hp'
      have x1 : Ext H col (paint col [p] none) := ext_paint (by intro b hb; simp only [List.mem_cons, List.not_mem_nil, or_false] at hb; rw [hb]; exact .inl hp)
      have J1 : JobAt C (paint col [p] none) A H1 a s := J.keep (S := []) (Same.kp s1 []) (by simp) x1
      have J2 : JobAt C (paint col [p] none) A H' a s := J1.keep kk (by intro b hb; exact paint_in hb) (Ext.refl _ _)
      refine k H' _ A p J2 hp' ⟨⟨fun b o hb nb => kk.keep _ _ (s1 _ _ hb) (by simpa using ne_of_none hb hp), fun b hb nb => by rw [x1 b hb]; exact nb, fun b xs hb => kk.tups _ _ (s1 _ _ hb)⟩, .inl hp⟩
theorem ok_send (T : Txt K mg C.T C.K C.L C.W C.J) : GOk P w K mg base "send" 5 ["job", "worker", "request", "how"] (spSend C) := by
  obtain ⟨f, fd, E1, F, B⟩ := T.g_send.ex
  obtain ⟨f1, fd1, M_serve, B_serve, G_serve⟩ := ok_serve (P := P) (w := w) (base := base) T
  obtain ⟨f2, fd2, M_hear, B_hear, G_hear⟩ := ok_hear (P := P) (w := w) (base := base) T
  refine ⟨f, fd, E1, F.kp, B, F.ok c_send (fun vs H Q E h => ?_) (fun cdv A outer s H vs Q E hr h => ?_)⟩
  · obtain ⟨a, t, i, how, col, A, s, r, N, rfl, _⟩ := h
    rfl
  · obtain ⟨a, t, i, how, col, A, s, r, N, rfl, hi, hho, J, hSa, hN, hok, ht, k⟩ := h
    have nd := c_send.nd
    obtain ⟨hj, hjc⟩ := J.all .job
    refine ⟨_, (pss_cons (ps_if (pt_cmpR op_eq (pv 3) (pe_num rfl T.k_IS_ANSWERED) (nomark _)) (pss_cons (ps_set (i := 4) nd rfl (Or.inl rfl) (pe_meth (pv 0) T.Job.cl M_serve G_serve (hr.mono (by decide)) B_serve .nil pass0 (pa_cons (pv 2) pa_nil)))
      (pss_cons (ps_expr (pe_meth (pv 1) T.Worker.cl M_hear G_hear (hr.mono (by decide)) B_hear .nil pass0 (pa_cons (pv 2) (pa_cons (pv 4) pa_nil))))
      (pss_one (ps_ret (pe_lst (pa_cons (pe_ix ix_tup (pv 4) pe_int (fun _ _ => rfl)) pa_nil)))))) pss_nil)
      (pss_cons (ps_if (pt_cmpR op_eq (pv 3) (pe_num rfl T.k_ANSWER_IS_LOST) (nomark _)) (pss_one (ps_expr (pe_meth (pv 0) T.Job.cl M_serve G_serve (hr.mono (by decide)) B_serve .nil pass0 (pa_cons (pv 2) pa_nil)))) pss_nil)
      (pss_cons (ps_if (pt_cmpR op_eq (pv 3) (pe_num rfl T.k_IS_IN_THE_AIR) (nomark _)) (pss_one (ps_expr (pe_bm PySem.F.plainAttrs_list PySem.F.slot_list_append PySem.F.type_list_append mt_append (pe_fld (pv 0) rfl) (pa_cons (pv 2) pa_nil)))) pss_nil)
      (pss_one (ps_ret (pe_lst pa_nil)))))), ?_⟩
    match how, hho with
    | 0, _ =>
      refine ⟨_, rfl, rfl, _, rfl, iteT ?_⟩
      refine ⟨_, rfl, a, A.dj, _, rfl, hj, jf_serve _ _ _ _ _ _, _, rfl, ?_⟩
      refine ⟨a, t, col, A, s, r, N, rfl, J, hSa, hN, hok, ht, fun H1 col1 fp1 u J1 hu fr1 => ?_⟩
      obtain ⟨W1, _, _, _⟩ := J1.all (.wk i) hi
      obtain ⟨dw, hw1⟩ := W1.ex
      have ht1 := fr1.tups _ _ ht
      refine ⟨_, rfl, A.w i, dw, _, rfl, hw1, wf_no _ _ _ _ _ _ _ _ _ (by decide +kernel), _, rfl, _, rfl, ?_⟩
      refine ⟨A.w i, A.n i, A.g i, t, u, Hs08.worker (Hs08.serves s r).1 i, r, (Hs08.serves s r).2, rfl, W1, hok, serves_epoch s r, ht1, hu, fun H2 nn' gl' R => ?_⟩
      obtain ⟨col2, A2, J2, fr2, _, _⟩ := J1.worker hi (by rw [(serves_rest s r).2.2.1]; exact hSa.len) R
      obtain ⟨l, hl⟩ := ansT_head (isBegin r) (Hs08.serves s r).2
      have hu2 : H2 u = some (.tup (vn (Hs08.ansTold (Hs08.serves s r).2) :: l)) := by rw [← hl]; exact fr2.tups _ _ hu
      refine ⟨_, rfl, u, _, _, _, rfl, rfl, SqT.of hu2, at0, by show 1 ≤ sizeLine; decide, fun p hp => ?_⟩
      exact k _ col2 A2 p (J2.new hp) upd_same ((fr1.trans fr2).fin hp)
    | 1, _ =>
      refine ⟨_, rfl, rfl, _, rfl, iteF ?_⟩
      refine ⟨_, rfl, rfl, _, rfl, iteT ?_⟩
      refine ⟨_, rfl, a, A.dj, _, rfl, hj, jf_serve _ _ _ _ _ _, _, rfl, ?_⟩
      refine ⟨a, t, col, A, s, r, N, rfl, J, hSa, hN, hok, ht, fun H1 col1 fp1 u J1 hu fr1 => ?_⟩
      refine ⟨_, rfl, rfl, _, rfl, iteF ?_⟩
      refine ⟨by show 0 ≤ sizeLine; decide, fun p hp => ?_⟩
      exact k _ col1 _ p (J1.new hp) upd_same (fr1.fin hp)
    | 2, _ =>
      refine ⟨_, rfl, rfl, _, rfl, iteF ?_⟩
      refine ⟨_, rfl, rfl, _, rfl, iteF ?_⟩
      refine ⟨_, rfl, rfl, _, rfl, iteF ?_⟩
      refine ⟨by show 0 ≤ sizeLine; decide, fun p hp => ?_⟩
      exact k _ col A p (J.new hp) upd_same ((JFr.refl _ _).fin hp)
    | 3, _ =>
      obtain ⟨⟨ts, hai, hts⟩, haic⟩ := J.all .ai
      have hlen : ts.length = s.air.length := by rw [hts.len, List.length_map]
      refine ⟨_, rfl, rfl, _, rfl, iteF ?_⟩
      refine ⟨_, rfl, rfl, _, rfl, iteF ?_⟩
      refine ⟨_, rfl, rfl, _, rfl, iteT ?_⟩
      refine ⟨_, rfl, a, C.J, A.dj, _, _, rfl, hj, T.Job.cl, T.n_Job_air, jf_air _ _ _ _ _ _, .inl ⟨rfl, _, SqL.of hai⟩, _, rfl, A.ai, _, _, rfl, rfl, hai, ?_, ?_⟩
      · rw [List.length_map, hlen]
        exact Nat.lt_of_le_of_lt hSa.sza (Nat.lt_of_lt_of_le hN (by decide))
      · have nta : t ≠ A.ai := ne_of ht hai (by intro z; cases z)
        have eh : upd H A.ai (.lst (ts.map V.ref ++ [.ref t])) = upd H A.ai (.lst ((ts ++ [t]).map V.ref)) := by rw [List.map_append]; rfl
        have ht' : Tups (upd H A.ai (.lst ((ts ++ [t]).map V.ref))) (ts ++ [t]) ((s.air ++ [r]).map airT) := by
          rw [show (s.air ++ [r]).map airT = s.air.map airT ++ [airT r] from List.map_append]
          refine Tups.snoc (hts.keep fun b xs hb => ?_) ?_
          · rw [upd_ne (ne_of hb hai (by intro z; cases z))]; exact hb
          · rw [upd_ne nta]; exact ht
        obtain ⟨J1, fr1⟩ := J.airs ht'
        rw [← eh] at J1 fr1
        refine ⟨by show 0 ≤ sizeLine; decide, fun p hp => ?_⟩
        exact k _ col A p (J1.new hp) upd_same (fr1.fin hp)
theorem ok_call_arrive (T : Txt K mg C.T C.K C.L C.W C.J) : GOk P w K mg base "call_arrive" 5 ["job", "given"] (spCall C 1 c3) := by
  obtain ⟨f, fd, E1, F, B⟩ := T.g_call_arrive.ex
  obtain ⟨f1, fd1, M_serve, B_serve, G_serve⟩ := ok_serve (P := P) (w := w) (base := base) T
  refine ⟨f, fd, E1, F.kp, B, F.ok c_call_arrive (fun vs H Q E h => ?_) (fun cdv A outer s H vs Q E hr h => ?_)⟩
  · obtain ⟨a, g, ns, col, A, s, N, rfl, _⟩ := h
    rfl
  · obtain ⟨a, g, ns, col, A, s, N, rfl, hn, hg, J, hSa, hN, k⟩ := h
    have nd := c_call_arrive.nd
    obtain ⟨m, rfl⟩ := len1 hn
    have hst : Hs08.step s (c3 [m]) = match s.air[m - 1]? with
      | some r => if m = 0 then (s, [-5]) else ((Hs08.serves { s with air := s.air.eraseIdx (m - 1) } r).1, Hs08.ints (Hs08.reqTold r ++ [Hs08.ansTold (Hs08.serves s r).2]))
      | none => (s, [-5]) := rfl
    obtain ⟨hj, hjc⟩ := J.all .job
    obtain ⟨⟨ts, hai, hts⟩, haic⟩ := J.all .ai
    have hlen : ts.length = s.air.length := by rw [hts.len, List.length_map]
    have el : ((ts.map V.ref).length : Int) = ((s.air.length : Nat) : Int) := by rw [List.length_map, hlen]
    refine ⟨_, (pss_cons (ps_set (i := 2) nd rfl (Or.inl rfl) (pe_ix ix_list (pv 1) pe_int (fun _ _ => rfl)))
      (pss_cons (ps_if (PW.pt (pw_or (pt_cmpR op_lt (pv 2) pe_int (nomark _)) (pw_or1 (pt_cmpR op_gt (pv 2) (pe_callB call_len_seq (by rfl) T.b_len PySem.boot_len (pa_cons (pe_fld (pv 0) rfl) pa_nil)) (nomark _))))) (pss_one (ps_ret (pe_lst (pa_cons (pe_num rfl T.k_NOT_IN_THE_AIR) pa_nil)))) pss_nil)
      (pss_cons (ps_set (i := 3) nd rfl (Or.inl rfl) (pe_bm PySem.F.plainAttrs_list PySem.F.slot_list_pop PySem.F.type_list_pop mt_popAt (pe_fld (pv 0) rfl) (pa_cons (pe_op op_sub (pv 2) pe_int) pa_nil)))
      (pss_cons (ps_set (i := 4) nd rfl (Or.inl rfl) (pe_meth (pv 0) T.Job.cl M_serve G_serve (hr.mono (by decide)) B_serve .nil pass0 (pa_cons (pv 3) pa_nil)))
      (pss_one (ps_ret (pe_op op_cat (pe_callTy call_list_of (by rfl) T.b_list (by decide +kernel) (pa_cons (pv 3) pa_nil)) (pe_lst (pa_cons (pe_ix ix_tup (pv 4) pe_int (fun _ _ => rfl)) pa_nil))))))))), ?_⟩
    refine ⟨_, rfl, g, _, _, vn m, rfl, rfl, SqL.of hg, at0, ?_⟩
    refine ⟨_, rfl, _, _, rfl, rfl, _, rfl, ite2 (fun c => ?_) (fun c => ?_)⟩
    · have c' : m = 0 := by have := of_decide_eq_true c; omega
      have e : Hs08.step s (c3 [m]) = (s, [-5]) := by
        rw [hst]
        cases s.air[m - 1]? with
        | none => rfl
        | some r => dsimp only; rw [if_pos c']
      rw [e] at k
      refine ⟨by show 1 ≤ sizeLine; decide, fun p hp => ?_⟩
      exact k _ col A p (J.new hp) upd_same ((JFr.refl _ _).fin hp)
    · have c1' : ¬ ((m : Int) < 1) := fun z => c (decide_eq_true z)
      refine ⟨_, rfl, _, rfl, a, C.J, A.dj, _, _, rfl, hj, T.Job.cl, T.n_Job_air, jf_air _ _ _ _ _ _, A.ai, _, rfl, .inl (SqL.of hai), _, _, rfl, rfl, _, rfl, ite2 (fun d => ?_) (fun d => ?_)⟩
      · have d' : s.air.length < m := by have := of_decide_eq_true d; omega
        have e : Hs08.step s (c3 [m]) = (s, [-5]) := by
          rw [hst, List.getElem?_eq_none_iff.mpr (by omega)]
        rw [e] at k
        refine ⟨by show 1 ≤ sizeLine; decide, fun p hp => ?_⟩
        exact k _ col A p (J.new hp) upd_same ((JFr.refl _ _).fin hp)
      · have d1' : ¬ (((ts.map V.ref).length : Int) < (m : Int)) := fun z => d (decide_eq_true z)
        obtain ⟨q, rfl⟩ : ∃ q, m = q + 1 := ⟨m - 1, by omega⟩
        have hq : q < s.air.length := by omega
        obtain ⟨r, hr'⟩ : ∃ r, s.air[q]? = some r := ⟨_, List.getElem?_eq_getElem hq⟩
        obtain ⟨t, ht⟩ : ∃ t, ts[q]? = some t := ⟨_, List.getElem?_eq_getElem (by omega)⟩
        have htt : H t = some (.tup (airT r)) := hts.at_ q t (airT r) ht (by rw [List.getElem?_map, hr']; rfl)
        have e : Hs08.step s (c3 [q + 1]) = ((Hs08.serves { s with air := s.air.eraseIdx q } r).1, Hs08.ints (Hs08.reqTold r ++ [Hs08.ansTold (Hs08.serves s r).2])) := by
          rw [hst]
          rw [show q + 1 - 1 = q from rfl, hr']
          rfl
        rw [e] at k
        have hszl := hSa.sza
        refine ⟨_, rfl, a, C.J, A.dj, _, _, rfl, hj, T.Job.cl, T.n_Job_air, jf_air _ _ _ _ _ _, .inl ⟨rfl, _, SqL.of hai⟩, _, rfl, _, _, rfl, rfl, A.ai, _, _, q, .ref t, rfl, rfl, hai, by omega, by omega, ?_, by rw [List.getElem?_map, ht]; rfl, ?_⟩
        · rw [seqIndex_of (by omega) (by rw [List.length_map, hlen]; omega)]
          exact congrArg some (by omega)
        · have eh : upd H A.ai (.lst ((ts.map V.ref).eraseIdx q)) = upd H A.ai (.lst ((ts.eraseIdx q).map V.ref)) := by rw [erase_map]
          have ht' : Tups (upd H A.ai (.lst ((ts.eraseIdx q).map V.ref))) (ts.eraseIdx q) ((s.air.eraseIdx q).map airT) := by
            have h0 : Tups H (ts.eraseIdx q) ((s.air.eraseIdx q).map airT) := by
              rw [← erase_map]
              refine ⟨by rw [List.length_eraseIdx, List.length_eraseIdx, hts.len], fun i b x hb hx => ?_⟩
              rw [List.getElem?_eraseIdx] at hb hx
              by_cases hiq : i < q
              · rw [if_pos hiq] at hb hx; exact hts.at_ i b x hb hx
              · rw [if_neg hiq] at hb hx; exact hts.at_ _ b x hb hx
            exact h0.keep fun b xs hb => by rw [upd_ne (ne_of hb hai (by intro z; cases z))]; exact hb
          obtain ⟨J1, fr1⟩ := J.airs ht'
          rw [← eh] at J1 fr1
          have hj1 := (J1.all .job).1
          have hSa1 : Sane { s with air := s.air.eraseIdx q } N := ⟨hSa.len, hSa.ba, fun r' hr2 => hSa.ok r' (List.mem_of_mem_eraseIdx hr2), hSa.szi, Nat.le_trans (List.length_eraseIdx_le ..) hSa.sza, hSa.szr, hSa.op⟩
          have hok : reqOk r := hSa.ok r (List.mem_of_getElem? hr')
          have htt1 := fr1.tups _ _ htt
          refine ⟨_, rfl, a, A.dj, _, rfl, hj1, jf_serve _ _ _ _ _ _, _, rfl, ?_⟩
          refine ⟨a, t, col, A, _, r, N, rfl, J1, hSa1, hN, hok, htt1, fun H2 col2 fp2 u J2 hu fr2 => ?_⟩
          have htt2 := fr2.tups _ _ htt1
          refine ⟨_, rfl, t, _, rfl, .inr (SqT.of htt2), fun l1 hl1 => ?_⟩
          obtain ⟨l, hl⟩ := ansT_head (isBegin r) (Hs08.serves { s with air := s.air.eraseIdx q } r).2
          have hu2 : H2 u = some (.tup (vn (Hs08.ansTold (Hs08.serves s r).2) :: l)) := by rw [hu, hl, serves_air]
          have hu3 := same_new (u := .lst (airT r)) hl1 _ _ hu2
          refine ⟨_, rfl, u, _, _, _, rfl, rfl, SqT.of hu3, at0, by show 1 ≤ sizeLine; decide, fun l2 hl2 => ?_⟩
          have h1 : (upd (upd H2 l1 (.lst (airT r))) l2 (.lst [vn (Hs08.ansTold (Hs08.serves s r).2)])) l1 = some (.lst (airT r)) := by rw [upd_ne (ne_of_none upd_same hl2), upd_same]
          refine ⟨l1, l2, _, _, rfl, rfl, h1, upd_same, ?_, fun p hp => ?_⟩
          · have := told_len r
            unfold airT
            rw [List.length_map]
            have : (16777216 : Nat) = sizeLine := rfl
            show (Hs08.reqTold r).length + 1 ≤ sizeLine
            omega
          · refine k _ col2 _ p (((J2.new hl1).new hl2).new hp) ?_ (((fr1.trans fr2).trans ((JFr.same (same_new hl1)).trans (JFr.same (same_new hl2)))).fin hp)
            rw [upd_same, ← vnl, List.map_append]
            rfl
theorem wants_ok {s : Hs08.St} {x : Hs08.Worker} {r : Hs08.Req} (h : Hs08.wants s x = some r) : reqOk r := by
  unfold Hs08.wants at h
  split at h
  · cases h
  · split at h
    · cases h; trivial
    · split at h
      · cases h; trivial
      · split at h
        · split at h
          · dsimp only at h
            split at h
            · split at h
              · cases h; exact bit_lt _
              · cases h; exact bit_lt _
            · split at h
              · cases h; exact bit_lt _
              · cases h; exact bit_lt _
          · cases h; trivial
        · split at h
          · cases h; trivial
          · cases h
theorem ok_call_work (T : Txt K mg C.T C.K C.L C.W C.J) : GOk P w K mg base "call_work" 6 ["job", "given"] (spCall C 2 c2) := by
  obtain ⟨f, fd, E1, F, B⟩ := T.g_call_work.ex
  obtain ⟨f1, fd1, E_is_worker, K_is_worker, B_is_worker, G_is_worker⟩ := ok_is_worker (P := P) (w := w) (base := base) T
  obtain ⟨f2, fd2, E_send, K_send, B_send, G_send⟩ := ok_send (P := P) (w := w) (base := base) T
  obtain ⟨f3, fd3, M_ask, B_ask, G_ask⟩ := ok_ask (P := P) (w := w) (base := base) T
  refine ⟨f, fd, E1, F.kp, B, F.ok c_call_work (fun vs H Q E h => ?_) (fun cdv A outer s H vs Q E hr h => ?_)⟩
  · obtain ⟨a, g, ns, col, A, s, N, rfl, _⟩ := h
    rfl
  · obtain ⟨a, g, ns, col, A, s, N, rfl, hn, hg, J, hSa, hN, k⟩ := h
    have nd := c_call_work.nd
    obtain ⟨i, how, rfl⟩ := len2 hn
    have hst : Hs08.step s (c2 [i, how]) = if Hs08.isWorker i = false then (s, [-1]) else if 3 < how then (s, [-2]) else if (Hs08.worker s (i - 1)).up = false then (s, [-6]) else
      (match Hs08.wants s (Hs08.worker s (i - 1)) with
      | none => (s, [0])
      | some r => (Hs08.works s (i - 1) how r, Hs08.ints (Hs08.reqTold r ++ if how = 0 then [Hs08.ansTold (Hs08.serves s r).2] else []))) := rfl
    obtain ⟨hj, hjc⟩ := J.all .job
    obtain ⟨hwo, hwc⟩ := J.all .wo
    obtain ⟨hnu, hnc⟩ := J.all .nu
    refine ⟨_, (pss_cons (ps_set (i := 2) nd rfl (Or.inl rfl) (pe_ix ix_list (pv 1) pe_int (fun _ _ => rfl)))
      (pss_cons (ps_set (i := 3) nd rfl (Or.inl rfl) (pe_ix ix_list (pv 1) pe_int (fun _ _ => rfl)))
      (pss_cons (ps_if (pt_not (pt_val (pe_call G_is_worker (hr.mono (by decide)) rfl E_is_worker K_is_worker B_is_worker .nil pass0 (pa_cons (pv 2) pa_nil)))) (pss_one (ps_ret (pe_lst (pa_cons (pe_num rfl T.k_OUT_OF_RANGE) pa_nil)))) pss_nil)
      (pss_cons (ps_if (pt_cmpR op_gt (pv 3) (pe_num rfl T.k_IS_IN_THE_AIR) (nomark _)) (pss_one (ps_ret (pe_lst (pa_cons (pe_num rfl T.k_NO_SUCH_WAY) pa_nil)))) pss_nil)
      (pss_cons (ps_set (i := 4) nd rfl (Or.inl rfl) (pe_ix ix_list (pe_fld (pv 0) rfl) (pe_op op_sub (pv 2) pe_int) (fun _ _ => rfl)))
      (pss_cons (ps_if (pt_not (pt_val (pe_fld (pv 4) rfl))) (pss_one (ps_ret (pe_lst (pa_cons (pe_num rfl T.k_WRONG_WORKER_STATE) pa_nil)))) pss_nil)
      (pss_cons (ps_set (i := 5) nd rfl (Or.inl rfl) (pe_meth (pv 4) T.Worker.cl M_ask G_ask (hr.mono (by decide)) B_ask .nil pass0 (pa_cons (pe_fld (pv 0) rfl) (pa_cons (pe_fld (pv 0) rfl) pa_nil))))
      (pss_cons (ps_if (pt_cmpR (op_eqN hr.units) (pv 5) (pe_tup pa_nil) (nomark _)) (pss_one (ps_ret (pe_lst (pa_cons pe_int pa_nil)))) pss_nil)
      (pss_one (ps_ret (pe_op op_cat (pe_callTy call_list_of (by rfl) T.b_list (by decide +kernel) (pa_cons (pv 5) pa_nil)) (pe_call G_send (hr.mono (by decide)) rfl E_send K_send B_send .nil pass0 (pa_cons (pv 0) (pa_cons (pv 4) (pa_cons (pv 5) (pa_cons (pv 3) pa_nil)))))))))))))))), ?_⟩
    refine ⟨_, rfl, g, _, _, vn i, rfl, rfl, SqL.of hg, at0, ?_⟩
    refine ⟨_, rfl, g, _, _, vn how, rfl, rfl, SqL.of hg, (by rfl), ?_⟩
    refine ⟨_, rfl, i, rfl, _, rfl, ?_⟩
    cases hI : Hs08.isWorker i with
    | false =>
      refine iteT ?_
      rw [hst, if_pos hI] at k
      refine ⟨by show 1 ≤ sizeLine; decide, fun p hp => ?_⟩
      exact k _ col A p (J.new hp) upd_same ((JFr.refl _ _).fin hp)
    | true =>
      refine iteF ?_
      rw [if_neg (by rw [hI]; decide)] at hst
      obtain ⟨i1, i3⟩ := isWorker_iff.mp hI
      obtain ⟨m, rfl⟩ : ∃ m, i = m + 1 := ⟨i - 1, by omega⟩
      rw [Nat.add_sub_cancel] at hst
      have hm : m < 3 := by omega
      obtain ⟨W, hc1, hc2, hc3⟩ := J.all (.wk m) hm
      obtain ⟨dw, hw⟩ := W.ex
      refine ⟨_, rfl, _, _, rfl, rfl, _, rfl, ite2 (fun c => ?_) (fun c => ?_)⟩
      · have c' : 3 < how := by have := of_decide_eq_true c; omega
        rw [hst, if_pos c'] at k
        refine ⟨by show 1 ≤ sizeLine; decide, fun p hp => ?_⟩
        exact k _ col A p (J.new hp) upd_same ((JFr.refl _ _).fin hp)
      · have c1' : ¬ ((3 : Int) < how) := fun z => c (decide_eq_true z)
        have c' : ¬ 3 < how := by omega
        rw [if_neg c'] at hst
        refine ⟨_, rfl, a, C.J, A.dj, _, _, rfl, hj, T.Job.cl, T.n_Job_workers, jf_workers _ _ _ _ _ _, _, rfl, _, _, rfl, rfl, A.wo, _, _, _, rfl, rfl, SqL.of hwo, at_of (j := m) (by omega) (pick3 (f := fun k => V.ref (A.w k)) hm), ?_⟩
        refine ⟨_, rfl, A.w m, C.W, dw, _, _, rfl, hw, T.Worker.cl, T.n_Worker_up, wf_up _ _ _ _ _ _ _ _ _, _, rfl, ?_⟩
        cases hU : (Hs08.worker s m).up with
        | false =>
          refine iteT ?_
          rw [hst, if_pos hU] at k
          refine ⟨by show 1 ≤ sizeLine; decide, fun p hp => ?_⟩
          exact k _ col A p (J.new hp) upd_same ((JFr.refl _ _).fin hp)
        | true =>
          refine iteF ?_
          rw [if_neg (by rw [hU]; decide)] at hst
          refine ⟨_, rfl, A.w m, dw, _, rfl, hw, wf_no _ _ _ _ _ _ _ _ _ (by decide +kernel), _, rfl, a, C.J, A.dj, _, _, rfl, hj, T.Job.cl, T.n_Job_numbers, jf_numbers _ _ _ _ _ _, _, rfl, a, C.J, A.dj, _, _, rfl, hj, T.Job.cl, T.n_Job_batch, jf_batch _ _ _ _ _ _, ?_⟩
          refine ⟨A.w m, A.n m, A.g m, A.nu, Hs08.worker s m, s, rfl, W, hnu, hU, hSa.ba, fun H1 t ht W1 k1 => ?_⟩
          rw [reqV_eq] at ht
          obtain ⟨col1, A1, J1, fr1, ew, _⟩ := J.worker hm hSa.len ⟨W1, .inl rfl, .inl rfl, k1.mono (by simp)⟩
          refine ⟨_, rfl, by show 0 ≤ sizeLine; decide, fun q hq => ?_⟩
          have s2 : Same H1 (upd H1 q (.tup [])) := same_new hq
          refine ⟨t, q, _, rfl, rfl, s2 _ _ ht, upd_same, _, rfl, ?_⟩
          have J2 := J1.new (u := .tup []) hq
          have fr2 : JFr col H col1 (upd H1 q (.tup [])) := fr1.trans (JFr.same s2)
          cases hr' : Hs08.wants s (Hs08.worker s m) with
          | none =>
            refine iteT ?_
            rw [hst, hr'] at k
            dsimp only at k
            have es : Hs08.setWorker s m (askedO (Hs08.worker s m) none) = s := by
              show Hs08.setWorker s m (Hs08.worker s m) = s
              unfold Hs08.setWorker Hs08.worker
              rw [set_getD]
            rw [hr', es] at J2
            refine ⟨by show 1 ≤ sizeLine; decide, fun p hp => ?_⟩
            exact k _ col1 A1 p (J2.new hp) upd_same (fr2.fin hp)
          | some r =>
            rw [hr'] at ht J2
            have e1 : (reqN (some r)).isEmpty = false := by cases r <;> rfl
            rw [e1]
            refine iteF ?_
            rw [hst, hr'] at k
            dsimp only at k
            have hok := wants_ok hr'
            have htt : (upd H1 q (.tup [])) t = some (.tup (airT r)) := s2 _ _ ht
            refine ⟨_, rfl, t, _, rfl, .inr (SqT.of htt), fun l1 hl1 => ?_⟩
            have s3 : Same (upd H1 q (.tup [])) (upd (upd H1 q (.tup [])) l1 (.lst (airT r))) := same_new hl1
            have x3 : Ext (upd H1 q (.tup [])) col1 (paint col1 [l1] none) := ext_paint (by intro b hb; simp only [List.mem_cons, List.not_mem_nil, or_false] at hb; rw [hb]; exact .inl hl1)
            have J3 : JobAt C (paint col1 [l1] none) A1 (upd (upd H1 q (.tup [])) l1 (.lst (airT r))) a _ := J2.keep (S := []) (Kp.new hl1) (by simp) x3
            have fr3 : JFr col H (paint col1 [l1] none) (upd (upd H1 q (.tup [])) l1 (.lst (airT r))) := fr2.trans ⟨fun b o hb _ => s3 _ _ hb, fun b hb nb => by rw [x3 b hb]; exact nb, fun b xs hb => s3 _ _ hb⟩
            have hSa3 : Sane (Hs08.setWorker s m (askedO (Hs08.worker s m) (some r))) N := ⟨by show (s.workers.set m _).length = 3; rw [List.length_set]; exact hSa.len, hSa.ba, hSa.ok, hSa.szi, hSa.sza, hSa.szr, hSa.op⟩
            rw [← ew]
            refine ⟨_, rfl, _, rfl, _, rfl, _, rfl, ?_⟩
            refine ⟨a, t, m, how, paint col1 [l1] none, A1, _, r, N, rfl, hm, by omega, J3, hSa3, hN, hok, s3 _ _ htt, fun H4 col4 A4 p4 J4 hp4 fr4 => ?_⟩
            have hl4 : H4 l1 = some (.lst (airT r)) := fr4.fr.keep _ _ upd_same (paint_in (by simp))
            refine ⟨l1, p4, _, _, rfl, rfl, hl4, hp4, ?_, fun p hp => ?_⟩
            · have h6 := told_len r
              unfold airT behind
              rw [List.length_map, List.length_map]
              have : (16777216 : Nat) = sizeLine := rfl
              split
              · show (Hs08.reqTold r).length + 1 ≤ sizeLine; omega
              · show (Hs08.reqTold r).length + 0 ≤ sizeLine; omega
            · refine k _ col4 A4 p (JobAt.new ?_ hp) ?_ ((fr3.trans fr4.fr).fin hp)
              · have e4 : Hs08.works s m how r = sends (Hs08.setWorker s m (askedO (Hs08.worker s m) (some r))) m how r := by
                  have hle : how ≤ 3 := by omega
                  match how, hle with
                  | 0, _ => rfl
                  | 1, _ => rfl
                  | 2, _ => rfl
                  | 3, _ => rfl
                rw [e4]; exact J4
              · rw [upd_same, ← vnl, List.map_append]
                have e5 : behind (Hs08.setWorker s m (askedO (Hs08.worker s m) (some r))) how r = if how = 0 then [Hs08.ansTold (Hs08.serves s r).2] else [] := by
                  unfold behind
                  rw [show (Hs08.serves (Hs08.setWorker s m (askedO (Hs08.worker s m) (some r))) r).2 = (Hs08.serves s r).2 from serves_workers s _ r]
                rw [e5]
                rfl
end
end Sw

namespace Sw
open PySem PySem.Spec PyProof.Rows L2
/-! ### markers, expiry -/
theorem over_same (s : Hs08.St) (t : Hs08.Tx) (c : Part) (h : c ≠ .ke) : SameS s (Hs08.over s t) c := by
  unfold Hs08.over
  split
  · cases c <;> first | rfl | trivial | exact fun _ => rfl | exact absurd rfl h
  · split <;> (cases c <;> first | rfl | trivial | exact fun _ => rfl | exact absurd rfl h)
theorem undone_same (s : Hs08.St) (t : Hs08.Tx) (c : Part) (h : c ≠ .ke) : SameS s (Hs08.undone s t) c := by
  unfold Hs08.undone
  cases c <;> first | rfl | trivial | exact fun _ => rfl | exact absurd rfl h
theorem setLog_tx (s : Hs08.St) (j : Nat) (x : Hs08.Log) : (Hs08.setLog s j x).tx = s.tx ∧ (Hs08.setLog s j x).epoch = s.epoch := by
  unfold Hs08.setLog
  split <;> exact ⟨rfl, rfl⟩
theorem pick2 {α : Type} {f : Nat → α} {i : Nat} (h : i < 2) : [f 0, f 1][i]? = some (f i) := by
  match i, h with
  | 0, _ => rfl
  | 1, _ => rfl
def c7 (ns : List Nat) : Hs08.Call := .push (ns.getD 0 0)
def c8 (ns : List Nat) : Hs08.Call := .expire
def c9 (ns : List Nat) : Hs08.Call := .read (ns.getD 0 0) (ns.getD 1 0)
def c10 (ns : List Nat) : Hs08.Call := .raw (ns.getD 0 0)
def c11 (ns : List Nat) : Hs08.Call := .worker (ns.getD 0 0)
def c12 (ns : List Nat) : Hs08.Call := .keeper
def spIsLog : Sp := fun vs H Q _ => ∃ j : Nat, vs = [vn j] ∧ Q (.bl (decide (j < 2))) H
def spMark (C : Cs) : Sp := fun vs H Q _ => ∃ (a : Addr) (j : Nat) (col : Col) (A : Ad) (s : Hs08.St) (x : Hs08.Tx) (N : Nat), vs = [.ref a, vn j] ∧ JobAt C col A H a s ∧ Sane s N ∧ N < 1000 ∧ j < 2 ∧ s.tx = some x ∧
  ∀ (H' : Hp) (col' : Col) (A' : Ad), JobAt C col' A' H' a (Hs08.marks s x j) → JFr col H col' H' → Q (vn x.state) H'
section
variable {P : Program} {w : World} {K : PySem.W.Frag} {mg : Str → Option Value} {base : Heap} {C : Cs}
theorem ok_is_log (T : Txt K mg C.T C.K C.L C.W C.J) : GOk P w K mg base "is_log" 1 ["j"] spIsLog := by
  obtain ⟨f, fd, E1, F, B⟩ := T.g_is_log.ex
  refine ⟨f, fd, E1, F.kp, B, F.ok c_is_log (fun vs H Q E h => ?_) (fun cdv A outer s H vs Q E hr h => ?_)⟩
  · obtain ⟨i, rfl, _⟩ := h
    rfl
  · obtain ⟨j, rfl, k⟩ := h
    refine ⟨_, (pss_one (ps_ret (pe_cmpR op_lt (pv 0) (pe_num rfl T.k_LOG_COUNT) (nomark _)))), ?_⟩
    have e : decide (j < 2) = decide ((j : Int) < 2) := decide_eq_decide.mpr (by omega)
    rw [e] at k
    exact ⟨_, rfl, _, _, rfl, rfl, k⟩
theorem ok_write_marker (T : Txt K mg C.T C.K C.L C.W C.J) : MOk P w K mg base C.J "write_marker" 3 ["self", "j"] (spMark C) := by
  obtain ⟨f, fd, M, F, B⟩ := T.m_Job_write_marker.ex
  obtain ⟨f1, fd1, M_write_stands, B_write_stands, G_write_stands⟩ := ok_write_stands (P := P) (w := w) (base := base) T
  obtain ⟨f2, fd2, M_write_goes, B_write_goes, G_write_goes⟩ := ok_write_goes (P := P) (w := w) (base := base) T
  obtain ⟨f3, fd3, M_note_marker, B_note_marker, G_note_marker⟩ := ok_note_marker (P := P) (w := w) (base := base) T
  refine ⟨f, fd, M, B, F.ok c_Job_write_marker (fun vs H Q E h => ?_) (fun cdv A outer s H vs Q E hr h => ?_)⟩
  · obtain ⟨a, j, col, A, s, x, N, rfl, _⟩ := h
    rfl
  · obtain ⟨a, j, col, A, s, x, N, rfl, J, hSa, hN, hj, hx, k⟩ := h
    have nd := c_Job_write_marker.nd
    have h1 := (J.all .job).1
    have hlo := (J.all .lo).1
    obtain ⟨hk, hk2, hk3⟩ := J.all .ke
    obtain ⟨dk, vk, hk4, hk5⟩ := hk.ex
    rw [hx] at hk5
    obtain ⟨t, hs, lk, rfl, efp, X⟩ := hk5
    obtain ⟨dt, ht⟩ := X.ex
    obtain ⟨hl1, hl2, hl3⟩ := J.all (.lg j) hj
    obtain ⟨dl, ts, hl4, hl5, _⟩ := hl1.ex
    have hsz := hSa.szr j
    refine ⟨_, (pss_cons (ps_set (i := 2) nd rfl (Or.inl rfl) (pe_fld (pe_fld (pe_fld (pv 0) rfl) rfl) rfl))
      (pss_cons (ps_if (pt_cmpR op_eq (pv 2) (pe_num rfl T.k_TO_STAND) (nomark _)) (pss_one (ps_expr (pe_meth0 (pe_ix ix_list (pe_fld (pv 0) rfl) (pv 1) (fun _ _ => rfl)) T.Log.cl M_write_stands G_write_stands (hr.mono (by decide)) B_write_stands .nil pass0))) (pss_one (ps_expr (pe_meth (pe_ix ix_list (pe_fld (pv 0) rfl) (pv 1) (fun _ _ => rfl)) T.Log.cl M_write_goes G_write_goes (hr.mono (by decide)) B_write_goes .nil pass0 (pa_cons (pe_fld (pe_fld (pv 0) rfl) rfl) pa_nil)))))
      (pss_cons (ps_expr (pe_meth (pe_fld (pv 0) rfl) T.Keeper.cl M_note_marker G_note_marker (hr.mono (by decide)) B_note_marker .nil pass0 (pa_cons (pv 1) pa_nil)))
      (pss_one (ps_ret (pv 2)))))), ?_⟩
    -- once the log has its marker
    have fin : ∀ (H1 : Hp) (y : Hs08.Log), LogAt C.L H1 (A.l j) (A.r j) y → Kp [A.l j, A.r j] H H1 → Hs08.marks s x j = Hs08.over (Hs08.setLog s j y) (marked x j) →
        ∀ (H2 : Hp) (col1 : Col) (fp' : List Addr), JobAt C col A H1 a (Hs08.setLog s j y) → JFr col H col H1 → KeepTo C.K C.T H1 H2 A.ke A.fp fp' (Hs08.over (Hs08.setLog s j y) (marked x j)) → Q (vn x.state) H2 := fun H1 y L1 k1 em H2 _ fp' J1 fr1 R => by
      obtain ⟨col2, J2, fr2⟩ := J1.keeper R (over_same _ _)
      rw [em] at k
      exact k H2 col2 _ J2 (fr1.trans fr2)
    refine ⟨_, rfl, a, C.J, A.dj, _, _, rfl, h1, T.Job.cl, T.n_Job_keeper, jf_keeper _ _ _ _ _ _, A.ke, C.K, dk, _, _, rfl, hk4, T.Keeper.cl, T.n_Keeper_transaction, kf_tx _ _ _ _ _, t, C.T, dt, _, _, rfl, ht, T.Transaction.cl, T.n_Transaction_state, tf_state _ _ _ _ _ _, ?_⟩
    refine ⟨_, rfl, rfl, _, rfl, ite2 (fun c => ?_) (fun c => ?_)⟩
    · have c' : x.state = 1 := vn_inj.mp (of_decide_eq_true c)
      refine ⟨_, rfl, a, C.J, A.dj, _, _, rfl, h1, T.Job.cl, T.n_Job_logs, jf_logs _ _ _ _ _ _, _, rfl, A.lo, _, _, _, rfl, rfl, SqL.of hlo, atI_nat (pick2 (f := fun i => V.ref (A.l i)) hj), A.l j, dl, _, rfl, hl4, rfl, ?_⟩
      refine ⟨A.l j, A.r j, Hs08.log s j, rfl, hl1, by omega, fun H1 L1 k1 => ?_⟩
      obtain ⟨J1, fr1⟩ := J.logs hj L1 k1
      obtain ⟨hk', _, _⟩ := J1.all .ke
      obtain ⟨dk', vk', hk4', _⟩ := hk'.ex
      refine ⟨_, rfl, a, C.J, A.dj, _, _, rfl, (J1.all .job).1, T.Job.cl, T.n_Job_keeper, jf_keeper _ _ _ _ _ _, A.ke, dk', _, rfl, hk4', rfl, _, rfl, ?_⟩
      refine ⟨A.ke, A.fp, _, x, j, rfl, hk', by rw [(setLog_tx _ _ _).1]; exact hx, hj, fun H2 fp' R => ⟨_, rfl, ?_⟩⟩
      refine fin H1 _ L1 k1 ?_ H2 col fp' J1 fr1 R
      unfold Hs08.marks marked
      dsimp only
      rw [if_pos c']
    · have c' : ¬ x.state = 1 := fun z => c (decide_eq_true (vn_inj (b := 1) |>.mpr z))
      refine ⟨_, rfl, a, C.J, A.dj, _, _, rfl, h1, T.Job.cl, T.n_Job_logs, jf_logs _ _ _ _ _ _, _, rfl, A.lo, _, _, _, rfl, rfl, SqL.of hlo, atI_nat (pick2 (f := fun i => V.ref (A.l i)) hj), A.l j, dl, _, rfl, hl4, rfl, ?_⟩
      refine ⟨_, rfl, a, C.J, A.dj, _, _, rfl, h1, T.Job.cl, T.n_Job_keeper, jf_keeper _ _ _ _ _ _, A.ke, C.K, dk, _, _, rfl, hk4, T.Keeper.cl, T.n_Keeper_epoch, kf_epoch _ _ _ _ _, ?_⟩
      refine ⟨A.l j, A.r j, Hs08.log s j, s.epoch, rfl, hl1, by omega, fun H1 L1 k1 => ?_⟩
      obtain ⟨J1, fr1⟩ := J.logs hj L1 k1
      obtain ⟨hk', _, _⟩ := J1.all .ke
      obtain ⟨dk', vk', hk4', _⟩ := hk'.ex
      refine ⟨_, rfl, a, C.J, A.dj, _, _, rfl, (J1.all .job).1, T.Job.cl, T.n_Job_keeper, jf_keeper _ _ _ _ _ _, A.ke, dk', _, rfl, hk4', rfl, _, rfl, ?_⟩
      refine ⟨A.ke, A.fp, _, x, j, rfl, hk', by rw [(setLog_tx _ _ _).1]; exact hx, hj, fun H2 fp' R => ⟨_, rfl, ?_⟩⟩
      refine fin H1 _ L1 k1 ?_ H2 col fp' J1 fr1 R
      unfold Hs08.marks marked
      dsimp only
      rw [if_neg c']
theorem ok_call_push (T : Txt K mg C.T C.K C.L C.W C.J) : GOk P w K mg base "call_push" 4 ["job", "given"] (spCall C 1 c7) := by
  obtain ⟨f, fd, E1, F, B⟩ := T.g_call_push.ex
  obtain ⟨f1, fd1, E_is_log, K_is_log, B_is_log, G_is_log⟩ := ok_is_log (P := P) (w := w) (base := base) T
  obtain ⟨f2, fd2, M_awaits_marker, B_awaits_marker, G_awaits_marker⟩ := ok_awaits_marker (P := P) (w := w) (base := base) T
  obtain ⟨f3, fd3, M_write_marker, B_write_marker, G_write_marker⟩ := ok_write_marker (P := P) (w := w) (base := base) T
  refine ⟨f, fd, E1, F.kp, B, F.ok c_call_push (fun vs H Q E h => ?_) (fun cdv A outer s H vs Q E hr h => ?_)⟩
  · obtain ⟨a, g, ns, col, A, s, N, rfl, _⟩ := h
    rfl
  · obtain ⟨a, g, ns, col, A, s, N, rfl, hn, hg, J, hSa, hN, k⟩ := h
    have nd := c_call_push.nd
    obtain ⟨j, rfl⟩ := len1 hn
    have hst : Hs08.step s (c7 [j]) = if 1 < j then (s, [-1]) else (match s.tx with
      | some t => if t.state = 0 ∨ Hs08.lacks t j = false then (s, [-4]) else (Hs08.marks s t j, Hs08.ints [t.state])
      | none => (s, [-4])) := rfl
    obtain ⟨hj, hjc⟩ := J.all .job
    obtain ⟨hk, hk2, hk3⟩ := J.all .ke
    obtain ⟨dk, vk, hk4, _⟩ := hk.ex
    refine ⟨_, (pss_cons (ps_set (i := 2) nd rfl (Or.inl rfl) (pe_ix ix_list (pv 1) pe_int (fun _ _ => rfl)))
      (pss_cons (ps_if (pt_not (pt_val (pe_call G_is_log (hr.mono (by decide)) rfl E_is_log K_is_log B_is_log .nil pass0 (pa_cons (pv 2) pa_nil)))) (pss_one (ps_ret (pe_lst (pa_cons (pe_num rfl T.k_OUT_OF_RANGE) pa_nil)))) pss_nil)
      (pss_cons (ps_if (pt_not (pt_val (pe_meth (pe_fld (pv 0) rfl) T.Keeper.cl M_awaits_marker G_awaits_marker (hr.mono (by decide)) B_awaits_marker .nil pass0 (pa_cons (pv 2) pa_nil)))) (pss_one (ps_ret (pe_lst (pa_cons (pe_num rfl T.k_WRONG_TRANSACTION_STATE) pa_nil)))) pss_nil)
      (pss_one (ps_ret (pe_lst (pa_cons (pe_meth (pv 0) T.Job.cl M_write_marker G_write_marker (hr.mono (by decide)) B_write_marker .nil pass0 (pa_cons (pv 2) pa_nil)) pa_nil))))))), ?_⟩
    refine ⟨_, rfl, g, _, _, vn j, rfl, rfl, SqL.of hg, at0, ?_⟩
    refine ⟨_, rfl, j, rfl, _, rfl, ?_⟩
    cases hI : decide (j < 2) with
    | false =>
      refine iteT ?_
      have hI' := of_decide_eq_false hI
      rw [hst, if_pos (by omega)] at k
      refine ⟨by show 1 ≤ sizeLine; decide, fun p hp => ?_⟩
      exact k _ col A p (J.new hp) upd_same ((JFr.refl _ _).fin hp)
    | true =>
      refine iteF ?_
      have hj2 := of_decide_eq_true hI
      rw [hst, if_neg (by omega)] at k
      refine ⟨_, rfl, a, C.J, A.dj, _, _, rfl, hj, T.Job.cl, T.n_Job_keeper, jf_keeper _ _ _ _ _ _, A.ke, dk, _, rfl, hk4, rfl, _, rfl, A.ke, A.fp, s, j, rfl, hk, hj2, _, rfl, ?_⟩
      cases hA : awaits s j with
      | false =>
        refine iteT ?_
        have e : (match s.tx with
          | some t => if t.state = 0 ∨ Hs08.lacks t j = false then (s, [-4]) else (Hs08.marks s t j, Hs08.ints [t.state])
          | none => (s, [-4])) = (s, [(-4 : Int)]) := by
          unfold awaits at hA
          cases hx : s.tx with
          | none => rfl
          | some x =>
            rw [hx] at hA
            dsimp only at hA ⊢
            rw [if_pos (.inr hA)]
        rw [e] at k
        refine ⟨by show 1 ≤ sizeLine; decide, fun p hp => ?_⟩
        exact k _ col A p (J.new hp) upd_same ((JFr.refl _ _).fin hp)
      | true =>
        refine iteF ?_
        unfold awaits at hA
        cases hx : s.tx with
        | none => rw [hx] at hA; cases hA
        | some x =>
          rw [hx] at hA k
          dsimp only at hA k
          have n0 : ¬ (x.state = 0 ∨ Hs08.lacks x j = false) := by
            rintro (z | z)
            · obtain ⟨z1, z2⟩ := hSa.op x hx z
              unfold Hs08.lacks at hA
              rw [z1, z2] at hA
              split at hA <;> cases hA
            · rw [z] at hA; cases hA
          rw [if_neg n0] at k
          refine ⟨_, rfl, a, A.dj, _, rfl, hj, rfl, _, rfl, ?_⟩
          refine ⟨a, j, col, A, s, x, N, rfl, J, hSa, hN, hj2, hx, fun H' col' A' J' fr => ?_⟩
          refine ⟨by show 1 ≤ sizeLine; decide, fun p hp => ?_⟩
          exact k _ col' A' p (J'.new hp) upd_same (fr.fin hp)
theorem ok_call_expire (T : Txt K mg C.T C.K C.L C.W C.J) : GOk P w K mg base "call_expire" 3 ["job", "given"] (spCall C 0 c8) := by
  obtain ⟨f, fd, E1, F, B⟩ := T.g_call_expire.ex
  obtain ⟨f1, fd1, M_has_open, B_has_open, G_has_open⟩ := ok_has_open (P := P) (w := w) (base := base) T
  obtain ⟨f2, fd2, M_undo, B_undo, G_undo⟩ := ok_undo (P := P) (w := w) (base := base) T
  refine ⟨f, fd, E1, F.kp, B, F.ok c_call_expire (fun vs H Q E h => ?_) (fun cdv A outer s H vs Q E hr h => ?_)⟩
  · obtain ⟨a, g, ns, col, A, s, N, rfl, _⟩ := h
    rfl
  · obtain ⟨a, g, ns, col, A, s, N, rfl, hn, hg, J, hSa, hN, k⟩ := h
    have hst : Hs08.step s (c8 ns) = (match s.tx with
      | some t => if t.state = 0 then (Hs08.undone s t, Hs08.ints [s.epoch + 1]) else (s, [-4])
      | none => (s, [-4])) := rfl
    obtain ⟨hj, hjc⟩ := J.all .job
    obtain ⟨hk, hk2, hk3⟩ := J.all .ke
    obtain ⟨dk, vk, hk4, _⟩ := hk.ex
    refine ⟨_, (pss_cons (ps_if (pt_not (pt_val (pe_meth0 (pe_fld (pv 0) rfl) T.Keeper.cl M_has_open G_has_open (hr.mono (by decide)) B_has_open .nil pass0))) (pss_one (ps_ret (pe_lst (pa_cons (pe_num rfl T.k_WRONG_TRANSACTION_STATE) pa_nil)))) pss_nil)
      (pss_cons (ps_expr (pe_meth0 (pe_fld (pv 0) rfl) T.Keeper.cl M_undo G_undo (hr.mono (by decide)) B_undo .nil pass0))
      (pss_one (ps_ret (pe_lst (pa_cons (pe_fld (pe_fld (pv 0) rfl) rfl) pa_nil)))))), ?_⟩
    refine ⟨_, rfl, a, C.J, A.dj, _, _, rfl, hj, T.Job.cl, T.n_Job_keeper, jf_keeper _ _ _ _ _ _, A.ke, dk, _, rfl, hk4, kf_has_open _ _ _ _ _, A.ke, A.fp, s, rfl, hk, _, rfl, ?_⟩
    cases hA : hasOpen s with
    | false =>
      refine iteT ?_
      have e : Hs08.step s (c8 ns) = (s, [(-4 : Int)]) := by
        rw [hst]
        unfold hasOpen at hA
        cases hx : s.tx with
        | none => rfl
        | some x =>
          rw [hx] at hA
          dsimp only at hA ⊢
          rw [if_neg (of_decide_eq_false hA)]
      rw [e] at k
      refine ⟨by show 1 ≤ sizeLine; decide, fun p hp => ?_⟩
      exact k _ col A p (J.new hp) upd_same ((JFr.refl _ _).fin hp)
    | true =>
      refine iteF ?_
      unfold hasOpen at hA
      cases hx : s.tx with
      | none => rw [hx] at hA; cases hA
      | some x =>
        rw [hx] at hA
        have e : Hs08.step s (c8 ns) = (Hs08.undone s x, Hs08.ints [s.epoch + 1]) := by
          rw [hst, hx]
          dsimp only at hA ⊢
          rw [if_pos (of_decide_eq_true hA)]
        rw [e] at k
        refine ⟨_, rfl, a, C.J, A.dj, _, _, rfl, hj, T.Job.cl, T.n_Job_keeper, jf_keeper _ _ _ _ _ _, A.ke, dk, _, rfl, hk4, kf_undo _ _ _ _ _, ?_⟩
        refine ⟨A.ke, A.fp, s, x, rfl, hk, hx, fun H' fp' R => ?_⟩
        obtain ⟨col', J', fr⟩ := J.keeper R (undone_same s x)
        obtain ⟨dk', vk', hk4', _⟩ := R.at_.ex
        refine ⟨_, rfl, a, C.J, A.dj, _, _, rfl, (J'.all .job).1, T.Job.cl, T.n_Job_keeper, jf_keeper _ _ _ _ _ _, A.ke, C.K, dk', _, _, rfl, hk4', T.Keeper.cl, T.n_Keeper_epoch, kf_epoch _ _ _ _ _, by show 1 ≤ sizeLine; decide, fun p hp => ?_⟩
        exact k _ col' _ p (J'.new hp) upd_same (fr.fin hp)
end
end Sw

namespace Sw
open PySem PySem.Spec PyProof.Rows L2
/-! ### read, raw, worker, keeper -/
theorem cut_from {xs : List V} (n : Nat) : cutV xs (some (n : Int)) none = xs.drop n := by
  unfold cutV
  rw [HT.sIx_nat, HT.sIx_none]
  by_cases h : n ≤ xs.length
  · rw [Nat.min_eq_left h]
    exact List.take_of_length_le (by rw [List.length_drop]; exact Nat.le_refl _)
  · rw [Nat.min_eq_right (by omega), List.drop_eq_nil_of_le (Nat.le_refl _), List.drop_eq_nil_of_le (by omega), List.take_nil]
theorem rec_len (u : Hs08.Rec) : (Hs08.recTold u).length ≤ 3 := by cases u <;> simp [Hs08.recTold]
theorem recs_len : ∀ l : List Hs08.Rec, (l.flatMap Hs08.recTold).length ≤ 3 * l.length
  | [] => by simp
  | r :: l => by
    have h1 := rec_len r
    have h2 := recs_len l
    rw [List.flatMap_cons, List.length_append, List.length_cons]
    omega
theorem recT_told (u : Hs08.Rec) : recT u = (Hs08.recTold u).map vn := by cases u <;> rfl
theorem flag_eq (b : Bool) : V.int (if b = true then 1 else 0) = vn (Hs08.flag b) := by cases b <;> rfl
def tells (x : Hs08.Tx) : List Nat := [x.n, x.state, Hs08.flag x.log0, Hs08.flag x.log1, Hs08.flag x.left0, Hs08.flag x.left1]
def spTell (CT : Addr) : Sp := fun vs H Q _ => ∃ (t hs lk : Addr) (x : Hs08.Tx), vs = [.ref t] ∧ TxAt CT H t hs lk x ∧
  ∀ (H' : Hp) (q : Addr), H q = none → H' q = some (.lst ((tells x).map vn)) → Same H H' → Q (.ref q) H'
/-- what is new and isn't the job's -/
theorem JobAt.same {C : Cs} {col : Col} {A : Ad} {H H' : Hp} {a : Addr} {s : Hs08.St} (J : JobAt C col A H a s) (h : Same H H') : JobAt C col A H' a s := J.keep (S := []) (Same.kp h []) (by simp) (Ext.refl H col)
theorem Same.trans' {H H1 H2 : Hp} (a : Same H H1) (b : Same H1 H2) : Same H H2 := fun x o h => b x o (a x o h)
section
variable {P : Program} {w : World} {K : PySem.W.Frag} {mg : Str → Option Value} {base : Heap} {C : Cs}
theorem ok_call_read (T : Txt K mg C.T C.K C.L C.W C.J) : GOk P w K mg base "call_read" 2 ["job", "given"] (spCall C 2 c9) := by
  obtain ⟨f, fd, E1, F, B⟩ := T.g_call_read.ex
  obtain ⟨f1, fd1, E_is_log, K_is_log, B_is_log, G_is_log⟩ := ok_is_log (P := P) (w := w) (base := base) T
  obtain ⟨f2, fd2, M_seen_sums, B_seen_sums, G_seen_sums⟩ := ok_seen_sums (P := P) (w := w) (base := base) T
  refine ⟨f, fd, E1, F.kp, B, F.ok c_call_read (fun vs H Q E h => ?_) (fun cdv A outer s H vs Q E hr h => ?_)⟩
  · obtain ⟨a, g, ns, col, A, s, N, rfl, _⟩ := h
    rfl
  · obtain ⟨a, g, ns, col, A, s, N, rfl, hn, hg, J, hSa, hN, k⟩ := h
    have nd := c_call_read.nd
    obtain ⟨j, n, rfl⟩ := len2 hn
    have hst : Hs08.step s (c9 [j, n]) = (s, if 1 < j then [-1] else Hs08.ints (((Hs08.visible s j).drop n).length :: (Hs08.visible s j).drop n)) := rfl
    obtain ⟨hj, hjc⟩ := J.all .job
    have hlo := (J.all .lo).1
    refine ⟨_, (pss_cons (ps_set (i := 2) nd rfl (Or.inl rfl) (pe_ix ix_list (pv 1) pe_int (fun _ _ => rfl)))
      (pss_cons (ps_if (pt_not (pt_val (pe_call G_is_log (hr.mono (by decide)) rfl E_is_log K_is_log B_is_log .nil pass0 (pa_cons (pv 2) pa_nil)))) (pss_one (ps_ret (pe_lst (pa_cons (pe_num rfl T.k_OUT_OF_RANGE) pa_nil)))) pss_nil)
      (pss_cons (ps_set (i := 3) nd rfl (Or.inl rfl) (pe_slice sl_list (pe_meth0 (pe_ix ix_list (pe_fld (pv 0) rfl) (pv 2) (fun _ _ => rfl)) T.Log.cl M_seen_sums G_seen_sums (hr.mono (by decide)) B_seen_sums .nil pass0) (po_some (pe_ix ix_list (pv 1) pe_int (fun _ _ => rfl))) po_none))
      (pss_one (ps_ret (pe_op op_cat (pe_lst (pa_cons (pe_callB call_len_seq (by rfl) T.b_len PySem.boot_len (pa_cons (pv 3) pa_nil)) pa_nil)) (pv 3))))))), ?_⟩
    refine ⟨_, rfl, g, _, _, vn j, rfl, rfl, SqL.of hg, at0, ?_⟩
    refine ⟨_, rfl, j, rfl, _, rfl, ?_⟩
    cases hI : decide (j < 2) with
    | false =>
      refine iteT ?_
      have hI' := of_decide_eq_false hI
      rw [hst, if_pos (by omega)] at k
      refine ⟨by show 1 ≤ sizeLine; decide, fun p hp => ?_⟩
      exact k _ col A p (J.new hp) upd_same ((JFr.refl _ _).fin hp)
    | true =>
      refine iteF ?_
      have hj2 := of_decide_eq_true hI
      rw [hst, if_neg (by omega)] at k
      obtain ⟨hl1, hl2, hl3⟩ := J.all (.lg j) hj2
      obtain ⟨dl, ts, hl4, hl5, _⟩ := hl1.ex
      have hsz := hSa.szr j
      refine ⟨_, rfl, a, C.J, A.dj, _, _, rfl, hj, T.Job.cl, T.n_Job_logs, jf_logs _ _ _ _ _ _, _, rfl, A.lo, _, _, _, rfl, rfl, SqL.of hlo, atI_nat (pick2 (f := fun i => V.ref (A.l i)) hj2), A.l j, dl, _, rfl, hl4, rfl, ?_⟩
      refine ⟨A.l j, A.r j, Hs08.log s j, rfl, hl1, by omega, fun H1 q hq hq1 hsn s1 => ?_⟩
      refine ⟨_, rfl, g, _, _, vn n, rfl, rfl, SqL.of (s1 _ _ hg), (by rfl), _, rfl, q, _, rfl, SqL.of hq1, fun p3 hp3 => ?_⟩
      rw [cut_from, ← List.map_drop]
      have e3 : (upd H1 p3 (.lst (((Hs08.stands (Hs08.log s j).recs [] []).drop n).map vn))) p3 = some (.lst (((Hs08.visible s j).drop n).map vn)) := upd_same
      have s3 : Same H (upd H1 p3 (.lst (((Hs08.stands (Hs08.log s j).recs [] []).drop n).map vn))) := Same.trans' s1 (same_new hp3)
      have hvl : (Hs08.visible s j).length ≤ N := Nat.le_trans hsn hsz
      generalize upd H1 p3 (.lst (((Hs08.stands (Hs08.log s j).recs [] []).drop n).map vn)) = H3 at e3 s3 ⊢
      generalize (Hs08.visible s j) = vs at hvl e3 k
      refine ⟨_, rfl, p3, _, rfl, .inl (SqL.of e3), by show 1 ≤ sizeLine; decide, fun p4 hp4 => ?_⟩
      have n34 : p3 ≠ p4 := ne_of_none e3 hp4
      have s4 : Same H (upd H3 p4 (.lst [V.int ((((vs.drop n).map vn).length : Nat) : Int)])) := Same.trans' s3 (same_new hp4)
      have hline : (16777216 : Nat) = sizeLine := rfl
      refine ⟨_, rfl, p4, p3, _, _, rfl, rfl, upd_same, by rw [upd_ne n34]; exact e3, ?_, fun p hp => ?_⟩
      · rw [List.length_map, List.length_drop]
        show 1 + _ ≤ sizeLine
        omega
      · have fr4 : JFr col H col (upd H3 p4 (.lst [V.int ((((vs.drop n).map vn).length : Nat) : Int)])) := JFr.same s4
        refine k _ col A p ((J.same s4).new hp) ?_ (fr4.fin hp)
        rw [upd_same, ← vnl, List.length_map]
        rfl
theorem ok_call_raw (T : Txt K mg C.T C.K C.L C.W C.J) : GOk P w K mg base "call_raw" 2 ["job", "given"] (spCall C 1 c10) := by
  obtain ⟨f, fd, E1, F, B⟩ := T.g_call_raw.ex
  obtain ⟨f1, fd1, E_is_log, K_is_log, B_is_log, G_is_log⟩ := ok_is_log (P := P) (w := w) (base := base) T
  refine ⟨f, fd, E1, F.kp, B, F.ok c_call_raw (fun vs H Q E h => ?_) (fun cdv A outer s H vs Q E hr h => ?_)⟩
  · obtain ⟨a, g, ns, col, A, s, N, rfl, _⟩ := h
    rfl
  · obtain ⟨a, g, ns, col, A, s, N, rfl, hn, hg, J, hSa, hN, k⟩ := h
    have nd := c_call_raw.nd
    obtain ⟨j, rfl⟩ := len1 hn
    have hst : Hs08.step s (c10 [j]) = (s, if 1 < j then [-1] else Hs08.ints ((Hs08.log s j).recs.length :: (Hs08.log s j).recs.flatMap Hs08.recTold)) := rfl
    obtain ⟨hj, hjc⟩ := J.all .job
    have hlo := (J.all .lo).1
    refine ⟨_, (pss_cons (ps_set (i := 2) nd rfl (Or.inl rfl) (pe_ix ix_list (pv 1) pe_int (fun _ _ => rfl)))
      (pss_cons (ps_if (pt_not (pt_val (pe_call G_is_log (hr.mono (by decide)) rfl E_is_log K_is_log B_is_log .nil pass0 (pa_cons (pv 2) pa_nil)))) (pss_one (ps_ret (pe_lst (pa_cons (pe_num rfl T.k_OUT_OF_RANGE) pa_nil)))) pss_nil)
      (pss_cons (ps_set (i := 3) nd rfl (Or.inl rfl) (pe_lst (pa_cons (pe_callB call_len_seq (by rfl) T.b_len PySem.boot_len (pa_cons (pe_fld (pe_ix ix_list (pe_fld (pv 0) rfl) (pv 2) (fun _ _ => rfl)) rfl) pa_nil)) pa_nil)))
      (pss_cons (ps_for PassesOwn.never rfl (pi_list (pe_fld (pe_ix ix_list (pe_fld (pv 0) rfl) (pv 2) (fun _ _ => rfl)) rfl)) (pg_name (i := 4) nd rfl (Or.inl rfl)) (pss_one (ps_expr (pe_bm PySem.F.plainAttrs_list PySem.F.slot_list_extend PySem.F.type_list_extend mt_extT (pv 3) (pa_cons (pv 4) pa_nil)))))
      (pss_one (ps_ret (pv 3))))))), ?_⟩
    refine ⟨_, rfl, g, _, _, vn j, rfl, rfl, SqL.of hg, at0, ?_⟩
    refine ⟨_, rfl, j, rfl, _, rfl, ?_⟩
    cases hI : decide (j < 2) with
    | false =>
      refine iteT ?_
      have hI' := of_decide_eq_false hI
      rw [hst, if_pos (by omega)] at k
      refine ⟨by show 1 ≤ sizeLine; decide, fun p hp => ?_⟩
      exact k _ col A p (J.new hp) upd_same ((JFr.refl _ _).fin hp)
    | true =>
      refine iteF ?_
      have hj2 := of_decide_eq_true hI
      rw [hst, if_neg (by omega)] at k
      obtain ⟨hl1, hl2, hl3⟩ := J.all (.lg j) hj2
      obtain ⟨dl, ts, hl4, hl5, hl6⟩ := hl1.ex
      have hsz := hSa.szr j
      generalize hx : Hs08.log s j = x at hl1 hl4 hl6 hsz k
      have hlen : ts.length = x.recs.length := by rw [hl6.len, List.length_map]
      refine ⟨_, rfl, a, C.J, A.dj, _, _, rfl, hj, T.Job.cl, T.n_Job_logs, jf_logs _ _ _ _ _ _, _, rfl, A.lo, _, _, _, rfl, rfl, SqL.of hlo, atI_nat (pick2 (f := fun i => V.ref (A.l i)) hj2), A.l j, C.L, dl, _, _, rfl, hl4, T.Log.cl, T.n_Log_records, lf_records _ _ _, A.r j, _, rfl, .inl (SqL.of hl5), by show 1 ≤ sizeLine; decide, fun p hp => ?_⟩
      have el : ((ts.map V.ref).length : Int) = ((x.recs.length : Nat) : Int) := by rw [List.length_map, hlen]
      have s1 : Same H (upd H p (.lst [V.int ((ts.map V.ref).length : Int)])) := same_new hp
      have p1 : (upd H p (.lst [V.int ((ts.map V.ref).length : Int)])) p = some (.lst [vn x.recs.length]) := by rw [upd_same, el]
      generalize upd H p (.lst [V.int ((ts.map V.ref).length : Int)]) = H1 at s1 p1 ⊢
      have nap : A.r j ≠ p := ne_of_none hl5 hp
      refine ⟨_, rfl, a, C.J, A.dj, _, _, rfl, s1 _ _ hj, T.Job.cl, T.n_Job_logs, jf_logs _ _ _ _ _ _, _, rfl, A.lo, _, _, _, rfl, rfl, SqL.of (s1 _ _ hlo), atI_nat (pick2 (f := fun i => V.ref (A.l i)) hj2), A.l j, C.L, dl, _, _, rfl, s1 _ _ hl4, T.Log.cl, T.n_Log_records, lf_records _ _ _, A.r j, rfl, ⟨_, SqL.of (s1 _ _ hl5)⟩, for_list (K := K) (a := A.r j) (xs := ts.map V.ref)
        (fun i σ H' => ∃ v : Option V, σ = [some (.ref a), some (.ref g), some (vn j), some (.ref p), v] ∧ H' p = some (.lst ((x.recs.length :: (x.recs.take i).flatMap Hs08.recTold).map vn)) ∧ Kp [p] H1 H')
        ⟨none, rfl, p1, Kp.refl _ _⟩ (fun i σ H' _ ⟨_, _, _, kk⟩ => SqL.of (kk.keep _ _ (s1 _ _ hl5) (by simpa using nap))) ?_ ?_⟩
      · rintro i y σ H' hi ⟨v, rfl, hp', kk⟩
        obtain ⟨t, u, rfl, hu, ht⟩ := rec_at hl6 hi
        have htt : H' t = some (.tup (recT u)) := kk.tups _ _ (s1 _ _ ht)
        have hsz1 := recs_len (x.recs.take i)
        have hsz2 : (x.recs.take i).length ≤ x.recs.length := by rw [List.length_take]; exact Nat.min_le_right _ _
        have hsz4 := rec_len u
        refine ⟨_, rfl, .inl ⟨rfl, _, SqL.of hp'⟩, _, rfl, p, t, _, _, rfl, rfl, hp', SqT.of htt, ?_, ?_⟩
        · rw [recT_told, List.length_map, List.length_map, List.length_cons]
          have : (16777216 : Nat) = sizeLine := rfl
          omega
        · refine ⟨_, rfl, ?_, kk.trans (Kp.upd (by simp) hp' (by intro xs z; cases z))⟩
          rw [upd_same, take_succ hu, List.flatMap_append, List.flatMap_cons, List.flatMap_nil, List.append_nil, List.map_cons, List.map_cons, List.map_append, recT_told]
          rfl
      · rintro σ H' ⟨v, rfl, hp', kk⟩
        refine ⟨_, rfl, ?_⟩
        rw [List.length_map, hlen, List.take_length, vnl] at hp'
        have x1 : Ext H col (paint col [p] none) := ext_paint (by intro b hb; simp only [List.mem_cons, List.not_mem_nil, or_false] at hb; rw [hb]; exact .inl hp)
        have J1 : JobAt C (paint col [p] none) A H1 a s := J.keep (S := []) (Same.kp s1 []) (by simp) x1
        have J2 : JobAt C (paint col [p] none) A H' a s := J1.keep kk (by intro b hb; exact paint_in hb) (Ext.refl _ _)
        refine k H' _ A p J2 hp' ⟨⟨fun b o hb nb => kk.keep _ _ (s1 _ _ hb) (by simpa using ne_of_none hb hp), fun b hb nb => by rw [x1 b hb]; exact nb, fun b xs hb => kk.tups _ _ (s1 _ _ hb)⟩, .inl hp⟩
theorem ok_call_worker (T : Txt K mg C.T C.K C.L C.W C.J) : GOk P w K mg base "call_worker" 2 ["job", "given"] (spCall C 1 c11) := by
  obtain ⟨f, fd, E1, F, B⟩ := T.g_call_worker.ex
  obtain ⟨f1, fd1, E_is_worker, K_is_worker, B_is_worker, G_is_worker⟩ := ok_is_worker (P := P) (w := w) (base := base) T
  refine ⟨f, fd, E1, F.kp, B, F.ok c_call_worker (fun vs H Q E h => ?_) (fun cdv A outer s H vs Q E hr h => ?_)⟩
  · obtain ⟨a, g, ns, col, A, s, N, rfl, _⟩ := h
    rfl
  · obtain ⟨a, g, ns, col, A, s, N, rfl, hn, hg, J, hSa, hN, k⟩ := h
    have nd := c_call_worker.nd
    obtain ⟨i, rfl⟩ := len1 hn
    have hst : Hs08.step s (c11 [i]) = (s, if Hs08.isWorker i = false then [-1] else Hs08.ints [Hs08.flag (Hs08.worker s (i - 1)).up, (Hs08.worker s (i - 1)).epoch.getD 0, (Hs08.worker s (i - 1)).pos, (Hs08.worker s (i - 1)).sum, (Hs08.worker s (i - 1)).n, (Hs08.worker s (i - 1)).wrote, Hs08.flag (Hs08.worker s (i - 1)).ending]) := rfl
    obtain ⟨hj, hjc⟩ := J.all .job
    obtain ⟨hwo, hwc⟩ := J.all .wo
    refine ⟨_, (pss_cons (ps_set (i := 2) nd rfl (Or.inl rfl) (pe_ix ix_list (pv 1) pe_int (fun _ _ => rfl)))
      (pss_cons (ps_if (pt_not (pt_val (pe_call G_is_worker (hr.mono (by decide)) rfl E_is_worker K_is_worker B_is_worker .nil pass0 (pa_cons (pv 2) pa_nil)))) (pss_one (ps_ret (pe_lst (pa_cons (pe_num rfl T.k_OUT_OF_RANGE) pa_nil)))) pss_nil)
      (pss_cons (ps_set (i := 3) nd rfl (Or.inl rfl) (pe_ix ix_list (pe_fld (pv 0) rfl) (pe_op op_sub (pv 2) pe_int) (fun _ _ => rfl)))
      (pss_one (ps_ret (pe_lst (pa_cons (pe_callTy call_int1 (by rfl) T.b_int (by decide +kernel) (pa_cons (pe_fld (pv 3) rfl) pa_nil)) (pa_cons (pe_fld (pv 3) rfl) (pa_cons (pe_fld (pv 3) rfl) (pa_cons (pe_fld (pv 3) rfl) (pa_cons (pe_fld (pv 3) rfl) (pa_cons (pe_fld (pv 3) rfl) (pa_cons (pe_callTy call_int1 (by rfl) T.b_int (by decide +kernel) (pa_cons (pe_fld (pv 3) rfl) pa_nil)) pa_nil))))))))))))), ?_⟩
    refine ⟨_, rfl, g, _, _, vn i, rfl, rfl, SqL.of hg, at0, ?_⟩
    refine ⟨_, rfl, i, rfl, _, rfl, ?_⟩
    cases hI : Hs08.isWorker i with
    | false =>
      refine iteT ?_
      rw [hst, if_pos hI] at k
      refine ⟨by show 1 ≤ sizeLine; decide, fun p hp => ?_⟩
      exact k _ col A p (J.new hp) upd_same ((JFr.refl _ _).fin hp)
    | true =>
      refine iteF ?_
      rw [hst, if_neg (by rw [hI]; decide)] at k
      obtain ⟨i1, i3⟩ := isWorker_iff.mp hI
      obtain ⟨m, rfl⟩ : ∃ m, i = m + 1 := ⟨i - 1, by omega⟩
      rw [Nat.add_sub_cancel] at k
      have hm : m < 3 := by omega
      obtain ⟨W, hc1, _, _⟩ := J.all (.wk m) hm
      obtain ⟨dw, hw⟩ := W.ex
      refine ⟨_, rfl, a, C.J, A.dj, _, _, rfl, hj, T.Job.cl, T.n_Job_workers, jf_workers _ _ _ _ _ _, _, rfl, _, _, rfl, rfl, A.wo, _, _, _, rfl, rfl, SqL.of hwo, at_of (j := m) (by omega) (pick3 (f := fun k => V.ref (A.w k)) hm), ?_⟩
      refine ⟨_, rfl, A.w m, C.W, dw, _, _, rfl, hw, T.Worker.cl, T.n_Worker_up, wf_up _ _ _ _ _ _ _ _ _, .inr ⟨_, rfl, ?_⟩⟩
      refine ⟨_, rfl, A.w m, C.W, dw, _, _, rfl, hw, T.Worker.cl, T.n_Worker_epoch, wf_epoch _ _ _ _ _ _ _ _ _, ?_⟩
      refine ⟨_, rfl, A.w m, C.W, dw, _, _, rfl, hw, T.Worker.cl, T.n_Worker_place, wf_place _ _ _ _ _ _ _ _ _, ?_⟩
      refine ⟨_, rfl, A.w m, C.W, dw, _, _, rfl, hw, T.Worker.cl, T.n_Worker_total, wf_total _ _ _ _ _ _ _ _ _, ?_⟩
      refine ⟨_, rfl, A.w m, C.W, dw, _, _, rfl, hw, T.Worker.cl, T.n_Worker_number, wf_number _ _ _ _ _ _ _ _ _, ?_⟩
      refine ⟨_, rfl, A.w m, C.W, dw, _, _, rfl, hw, T.Worker.cl, T.n_Worker_granted_data, wf_gdata _ _ _ _ _ _ _ _ _, ?_⟩
      refine ⟨_, rfl, A.w m, C.W, dw, _, _, rfl, hw, T.Worker.cl, T.n_Worker_ending, wf_ending _ _ _ _ _ _ _ _ _, .inr ⟨_, rfl, ?_⟩⟩
      refine ⟨by show 7 ≤ sizeLine; decide, fun p hp => ?_⟩
      refine k _ col A p (J.new hp) ?_ ((JFr.refl _ _).fin hp)
      rw [upd_same, flag_eq, flag_eq]
      rfl
theorem ok_tell_transaction (T : Txt K mg C.T C.K C.L C.W C.J) : GOk P w K mg base "tell_transaction" 1 ["transaction"] (spTell C.T) := by
  obtain ⟨f, fd, E1, F, B⟩ := T.g_tell_transaction.ex
  refine ⟨f, fd, E1, F.kp, B, F.ok c_tell_transaction (fun vs H Q E h => ?_) (fun cdv A outer s H vs Q E hr h => ?_)⟩
  · obtain ⟨t, hs, lk, x, rfl, _⟩ := h
    rfl
  · obtain ⟨t, hs, lk, x, rfl, X, k⟩ := h
    have nd := c_tell_transaction.nd
    obtain ⟨dt, ht⟩ := X.ex
    refine ⟨_, (pss_cons (ps_set (i := 1) nd rfl (Or.inl rfl) (pe_lst (pa_cons (pe_fld (pv 0) rfl) (pa_cons (pe_fld (pv 0) rfl) pa_nil))))
      (pss_cons (ps_for PassesOwn.never rfl (pi_list (pe_op op_cat (pe_fld (pv 0) rfl) (pe_fld (pv 0) rfl))) (pg_name (i := 2) nd rfl (Or.inl rfl)) (pss_one (ps_expr (pe_bm PySem.F.plainAttrs_list PySem.F.slot_list_append PySem.F.type_list_append mt_append (pv 1) (pa_cons (pe_callTy call_int1 (by rfl) T.b_int (by decide +kernel) (pa_cons (pv 2) pa_nil)) pa_nil)))))
      (pss_one (ps_ret (pv 1))))), ?_⟩
    refine ⟨_, rfl, t, C.T, dt, _, _, rfl, ht, T.Transaction.cl, T.n_Transaction_number, tf_number _ _ _ _ _ _, ?_⟩
    refine ⟨_, rfl, t, C.T, dt, _, _, rfl, ht, T.Transaction.cl, T.n_Transaction_state, tf_state _ _ _ _ _ _, by show 2 ≤ sizeLine; decide, fun p hp => ?_⟩
    have s1 : Same H (upd H p (.lst [vn x.n, vn x.state])) := same_new hp
    have p1 : (upd H p (.lst [vn x.n, vn x.state])) p = some (.lst [vn x.n, vn x.state]) := upd_same
    generalize upd H p (.lst [vn x.n, vn x.state]) = H1 at s1 p1 ⊢
    refine ⟨_, rfl, t, C.T, dt, _, _, rfl, s1 _ _ ht, T.Transaction.cl, T.n_Transaction_has_log, tf_has_log _ _ _ _ _ _, ?_⟩
    refine ⟨_, rfl, t, C.T, dt, _, _, rfl, s1 _ _ ht, T.Transaction.cl, T.n_Transaction_lacks_marker, tf_lacks _ _ _ _ _ _, hs, lk, _, _, rfl, rfl, s1 _ _ X.h, s1 _ _ X.l, by show 4 ≤ sizeLine; decide, fun q hq => ?_⟩
    have npq : p ≠ q := ne_of_none p1 hq
    have q1 : (upd H1 q (.lst ([V.bl x.log0, V.bl x.log1] ++ [V.bl x.left0, V.bl x.left1]))) q = some (.lst ([x.log0, x.log1, x.left0, x.left1].map V.bl)) := upd_same
    have p2 : (upd H1 q (.lst ([V.bl x.log0, V.bl x.log1] ++ [V.bl x.left0, V.bl x.left1]))) p = some (.lst [vn x.n, vn x.state]) := by rw [upd_ne npq]; exact p1
    have s2 : Same H (upd H1 q (.lst ([V.bl x.log0, V.bl x.log1] ++ [V.bl x.left0, V.bl x.left1]))) := Same.trans' s1 (same_new hq)
    generalize upd H1 q (.lst ([V.bl x.log0, V.bl x.log1] ++ [V.bl x.left0, V.bl x.left1])) = H2 at q1 p2 s2 ⊢
    generalize hfl : [x.log0, x.log1, x.left0, x.left1] = fl at q1
    have hfl4 : fl.length = 4 := by rw [← hfl]; rfl
    refine ⟨q, rfl, ⟨_, SqL.of q1⟩, for_list (K := K) (a := q) (xs := fl.map V.bl)
      (fun i σ H' => ∃ v : Option V, σ = [some (.ref t), some (.ref p), v] ∧ H' p = some (.lst (([x.n, x.state] ++ (fl.take i).map Hs08.flag).map vn)) ∧ Kp [p] H2 H')
      ⟨none, rfl, p2, Kp.refl _ _⟩ (fun i σ H' _ ⟨_, _, _, kk⟩ => SqL.of (kk.keep _ _ q1 (by simpa using npq.symm))) ?_ ?_⟩
    · rintro i y σ H' hi ⟨v, rfl, hp', kk⟩
      rw [List.getElem?_map] at hi
      cases e : fl[i]? with
      | none => rw [e] at hi; cases hi
      | some b =>
        rw [e] at hi
        obtain rfl := Option.some.inj hi
        refine ⟨_, rfl, .inl ⟨rfl, _, SqL.of hp'⟩, _, rfl, .inr ⟨_, rfl, p, _, _, rfl, rfl, hp', ?_, ?_⟩⟩
        · have h4 : (fl.take i).length ≤ fl.length := by rw [List.length_take]; exact Nat.min_le_right _ _
          have : (16777216 : Nat) = sizeLine := rfl
          rw [List.length_map, List.length_append, List.length_map]
          show 2 + _ < sizeLine
          omega
        · refine ⟨_, rfl, ?_, kk.trans (Kp.upd (by simp) hp' (by intro xs z; cases z))⟩
          rw [upd_same, take_succ e, flag_eq, List.map_append (f := Hs08.flag), ← List.append_assoc]
          generalize [x.n, x.state] ++ (fl.take i).map Hs08.flag = l
          rw [List.map_append]
          rfl
    · rintro σ H' ⟨v, rfl, hp', kk⟩
      refine ⟨_, rfl, ?_⟩
      rw [List.length_map, List.take_length, ← hfl] at hp'
      exact k H' p hp hp' (fun b o hb => kk.keep _ _ (s2 _ _ hb) (by simpa using ne_of_none hb hp))
theorem ok_call_keeper (T : Txt K mg C.T C.K C.L C.W C.J) : GOk P w K mg base "call_keeper" 2 ["job", "given"] (spCall C 0 c12) := by
  obtain ⟨f, fd, E1, F, B⟩ := T.g_call_keeper.ex
  obtain ⟨f1, fd1, E_tell_transaction, K_tell_transaction, B_tell_transaction, G_tell_transaction⟩ := ok_tell_transaction (P := P) (w := w) (base := base) T
  refine ⟨f, fd, E1, F.kp, B, F.ok c_call_keeper (fun vs H Q E h => ?_) (fun cdv A outer s H vs Q E hr h => ?_)⟩
  · obtain ⟨a, g, ns, col, A, s, N, rfl, _⟩ := h
    rfl
  · obtain ⟨a, g, ns, col, A, s, N, rfl, hn, hg, J, hSa, hN, k⟩ := h
    have nd := c_call_keeper.nd
    have hst : Hs08.step s (c12 ns) = (s, Hs08.ints ([s.epoch, s.ended, s.pos, s.sum] ++ match s.tx with
      | none => [0]
      | some t => [1, t.n, t.state, Hs08.flag t.log0, Hs08.flag t.log1, Hs08.flag t.left0, Hs08.flag t.left1])) := rfl
    rw [hst] at k
    obtain ⟨hj, hjc⟩ := J.all .job
    obtain ⟨hk, hk2, hk3⟩ := J.all .ke
    obtain ⟨dk, vk, hk4, hk5⟩ := hk.ex
    refine ⟨_, (pss_cons (ps_set (i := 2) nd rfl (Or.inl rfl) (pe_fld (pv 0) rfl))
      (pss_cons (ps_set (i := 3) nd rfl (Or.inl rfl) (pe_lst (pa_cons (pe_fld (pv 2) rfl) (pa_cons (pe_fld (pv 2) rfl) (pa_cons (pe_fld (pv 2) rfl) (pa_cons (pe_fld (pv 2) rfl) pa_nil))))))
      (pss_cons (ps_if (pt_cmpR op_isN (pe_fld (pv 2) rfl) pe_non (nomark _)) (pss_one (ps_ret (pe_op op_cat (pv 3) (pe_lst (pa_cons pe_int pa_nil))))) pss_nil)
      (pss_one (ps_ret (pe_op op_cat (pe_op op_cat (pv 3) (pe_lst (pa_cons pe_int pa_nil))) (pe_call G_tell_transaction (hr.mono (by decide)) rfl E_tell_transaction K_tell_transaction B_tell_transaction .nil pass0 (pa_cons (pe_fld (pv 2) rfl) pa_nil)))))))), ?_⟩
    refine ⟨_, rfl, a, C.J, A.dj, _, _, rfl, hj, T.Job.cl, T.n_Job_keeper, jf_keeper _ _ _ _ _ _, ?_⟩
    refine ⟨_, rfl, A.ke, C.K, dk, _, _, rfl, hk4, T.Keeper.cl, T.n_Keeper_epoch, kf_epoch _ _ _ _ _, ?_⟩
    refine ⟨_, rfl, A.ke, C.K, dk, _, _, rfl, hk4, T.Keeper.cl, T.n_Keeper_last_ended, kf_ended _ _ _ _ _, ?_⟩
    refine ⟨_, rfl, A.ke, C.K, dk, _, _, rfl, hk4, T.Keeper.cl, T.n_Keeper_place, kf_place _ _ _ _ _, ?_⟩
    refine ⟨_, rfl, A.ke, C.K, dk, _, _, rfl, hk4, T.Keeper.cl, T.n_Keeper_total, kf_total _ _ _ _ _, by show 4 ≤ sizeLine; decide, fun p hp => ?_⟩
    have s1 : Same H (upd H p (.lst [vn s.epoch, vn s.ended, vn s.pos, vn s.sum])) := same_new hp
    have p1 : (upd H p (.lst [vn s.epoch, vn s.ended, vn s.pos, vn s.sum])) p = some (.lst [vn s.epoch, vn s.ended, vn s.pos, vn s.sum]) := upd_same
    generalize upd H p (.lst [vn s.epoch, vn s.ended, vn s.pos, vn s.sum]) = H1 at s1 p1 ⊢
    refine ⟨_, rfl, A.ke, C.K, dk, _, _, rfl, s1 _ _ hk4, T.Keeper.cl, T.n_Keeper_transaction, kf_tx _ _ _ _ _, rfl, _, rfl, ?_⟩
    cases hx : s.tx with
    | none =>
      rw [hx] at hk5 k
      obtain ⟨rfl, _⟩ := hk5
      refine iteT ?_
      refine ⟨_, rfl, by show 1 ≤ sizeLine; decide, fun q hq => ?_⟩
      have npq : p ≠ q := ne_of_none p1 hq
      have s2 : Same H (upd H1 q (.lst [V.int 0])) := Same.trans' s1 (same_new hq)
      refine ⟨p, q, _, _, rfl, rfl, by rw [upd_ne npq]; exact p1, upd_same, by show 5 ≤ sizeLine; decide, fun r hr' => ?_⟩
      have fr2 : JFr col H col (upd H1 q (.lst [V.int 0])) := JFr.same s2
      refine k _ col A r ((J.same s2).new hr') ?_ (fr2.fin hr')
      rw [upd_same]
      rfl
    | some x =>
      rw [hx] at hk5 k
      obtain ⟨t, hs, lk, rfl, efp, X⟩ := hk5
      refine iteF ?_
      refine ⟨_, rfl, by show 1 ≤ sizeLine; decide, fun q hq => ?_⟩
      have npq : p ≠ q := ne_of_none p1 hq
      have s2 : Same H (upd H1 q (.lst [V.int 1])) := Same.trans' s1 (same_new hq)
      refine ⟨p, q, _, _, rfl, rfl, by rw [upd_ne npq]; exact p1, upd_same, by show 5 ≤ sizeLine; decide, fun r hr' => ?_⟩
      have s3 : Same H (upd (upd H1 q (.lst [V.int 1])) r (.lst ([vn s.epoch, vn s.ended, vn s.pos, vn s.sum] ++ [V.int 1]))) := Same.trans' s2 (same_new hr')
      have r3 : (upd (upd H1 q (.lst [V.int 1])) r (.lst ([vn s.epoch, vn s.ended, vn s.pos, vn s.sum] ++ [V.int 1]))) r = some (.lst [vn s.epoch, vn s.ended, vn s.pos, vn s.sum, V.int 1]) := upd_same
      generalize upd (upd H1 q (.lst [V.int 1])) r (.lst ([vn s.epoch, vn s.ended, vn s.pos, vn s.sum] ++ [V.int 1])) = H3 at s3 r3 ⊢
      refine ⟨_, rfl, A.ke, C.K, dk, _, _, rfl, s3 _ _ hk4, T.Keeper.cl, T.n_Keeper_transaction, kf_tx _ _ _ _ _, ?_⟩
      refine ⟨t, hs, lk, x, rfl, X.keep (S := []) (Same.kp s3 []) (by simp) (by simp) (by simp), fun H4 u hu u4 s4 => ?_⟩
      refine ⟨r, u, _, _, rfl, rfl, s4 _ _ r3, u4, by show 11 ≤ sizeLine; decide, fun v hv => ?_⟩
      have s5 : Same H H4 := Same.trans' s3 s4
      have fr5 : JFr col H col H4 := JFr.same s5
      refine k _ col A v ((J.same s5).new hv) ?_ (fr5.fin hv)
      rw [upd_same]
      rfl
end
end Sw

namespace Sw
/-! ### what the specification does, call by call -/
theorem Sane.mono {s : Hs08.St} {N N' : Nat} (S : Sane s N) (h : N ≤ N') : Sane s N' := ⟨S.len, S.ba, S.ok, Nat.le_trans S.szi h, Nat.le_trans S.sza h, fun j => Nat.le_trans (S.szr j) h, S.op⟩
theorem sane_fresh {b : Nat} (h : 1 ≤ b) (N : Nat) : Sane (Hs08.fresh b) N := ⟨rfl, h, fun r hr => (by cases hr), Nat.zero_le _, Nat.zero_le _, fun j => by unfold Hs08.log Hs08.fresh; dsimp only; split <;> exact Nat.zero_le _, fun t e => (by cases e)⟩
theorem sane_setWorker {s : Hs08.St} {N : Nat} (S : Sane s N) (i : Nat) (x : Hs08.Worker) : Sane (Hs08.setWorker s i x) N := ⟨by show (s.workers.set i x).length = 3; rw [List.length_set]; exact S.len, S.ba, S.ok, S.szi, S.sza, S.szr, S.op⟩
theorem setLog_rest (s : Hs08.St) (j : Nat) (x : Hs08.Log) : (Hs08.setLog s j x).batch = s.batch ∧ (Hs08.setLog s j x).input = s.input ∧ (Hs08.setLog s j x).workers = s.workers ∧ (Hs08.setLog s j x).air = s.air ∧ (Hs08.setLog s j x).tx = s.tx := by
  unfold Hs08.setLog
  split <;> exact ⟨rfl, rfl, rfl, rfl, rfl⟩
theorem setLog_recs (s : Hs08.St) (j : Nat) (x : Hs08.Log) (h : x.recs.length ≤ (Hs08.log s j).recs.length + 1) (i : Nat) : (Hs08.log (Hs08.setLog s j x) i).recs.length ≤ (Hs08.log s i).recs.length + 1 := by
  unfold Hs08.setLog Hs08.log at *
  by_cases hj : j = 0
  · rw [if_pos hj] at h ⊢
    by_cases hi : i = 0
    · rw [if_pos hi, if_pos hi]; exact h
    · rw [if_neg hi, if_neg hi]; exact Nat.le_succ _
  · rw [if_neg hj] at h ⊢
    by_cases hi : i = 0
    · rw [if_pos hi, if_pos hi]; exact Nat.le_succ _
    · rw [if_neg hi, if_neg hi]; exact h
theorem sane_setLog {s : Hs08.St} {N : Nat} (S : Sane s N) (j : Nat) (x : Hs08.Log) (h : x.recs.length ≤ (Hs08.log s j).recs.length + 1) : Sane (Hs08.setLog s j x) (N + 1) := by
  obtain ⟨e1, e2, e3, e4, e5⟩ := setLog_rest s j x
  refine ⟨by rw [e3]; exact S.len, by rw [e1]; exact S.ba, by rw [e4]; exact S.ok, ?_, ?_, fun i => ?_, by rw [e5]; exact S.op⟩
  · have := S.szi; rw [e2]; omega
  · have := S.sza; rw [e4]; omega
  · have := setLog_recs s j x h i
    have := S.szr i
    omega
theorem sane_over {s : Hs08.St} {N : Nat} (S : Sane s N) (t : Hs08.Tx) (h : t.state ≠ 0) : Sane (Hs08.over s t) N := by
  unfold Hs08.over
  split
  · exact ⟨S.len, S.ba, S.ok, S.szi, S.sza, S.szr, fun u e z => by cases e; exact absurd z h⟩
  · split
    · exact ⟨S.len, S.ba, S.ok, S.szi, S.sza, S.szr, fun u e => by cases e⟩
    · exact ⟨S.len, S.ba, S.ok, S.szi, S.sza, S.szr, fun u e => by cases e⟩
theorem sane_marks {s : Hs08.St} {N : Nat} (S : Sane s N) (t : Hs08.Tx) (j : Nat) (h : t.state ≠ 0) : Sane (Hs08.marks s t j) (N + 1) := by
  unfold Hs08.marks
  dsimp only
  refine sane_over (sane_setLog S j _ ?_) _ ?_
  · split
    · show ((Hs08.log s j).recs ++ [_]).length ≤ _
      rw [List.length_append]; exact Nat.le_refl _
    · show ((Hs08.log s j).recs ++ [_]).length ≤ _
      rw [List.length_append]; exact Nat.le_refl _
  · split <;> exact h
theorem sane_works {s : Hs08.St} {N : Nat} (S : Sane s N) (i how : Nat) (r : Hs08.Req) (hr : reqOk r) : Sane (Hs08.works s i how r) (N + 1) := by
  have S1 := sane_setWorker S i (Hs08.asked (Hs08.worker s i) r)
  unfold Hs08.works
  dsimp only
  split
  · exact sane_setWorker (S1.serves r) _ _
  · exact S1.serves r
  · exact S1.mono (Nat.le_succ _)
  · refine ⟨S1.len, S1.ba, fun q hq => ?_, Nat.le_trans S1.szi (Nat.le_succ _), ?_, fun j => Nat.le_trans (S1.szr j) (Nat.le_succ _), S1.op⟩
    · rcases List.mem_append.mp hq with h | h
      · exact S1.ok q h
      · rw [List.mem_singleton.mp h]; exact hr
    · have := S1.sza
      show ((Hs08.setWorker s i (Hs08.asked (Hs08.worker s i) r)).air ++ [r]).length ≤ N + 1
      rw [List.length_append]
      exact Nat.succ_le_succ this
theorem sane_step {s : Hs08.St} {N : Nat} (S : Sane s N) (c : Hs08.Call) : Sane (Hs08.step s c).1 (N + 1) := by
  have S' : Sane s (N + 1) := S.mono (Nat.le_succ _)
  cases c with
  | begin_ b =>
    unfold Hs08.step; dsimp only
    split
    · exact S'
    · rename_i h
      exact sane_fresh (by omega) _
  | input v =>
    unfold Hs08.step; dsimp only
    split
    · exact S'
    · refine ⟨S.len, S.ba, S.ok, ?_, Nat.le_trans S.sza (Nat.le_succ _), fun j => Nat.le_trans (S.szr j) (Nat.le_succ _), S.op⟩
      show (s.input ++ [v]).length ≤ N + 1
      rw [List.length_append]
      exact Nat.succ_le_succ S.szi
  | work i how =>
    unfold Hs08.step; dsimp only
    split
    · exact S'
    · split
      · exact S'
      · split
        · exact S'
        · split
          · exact S'
          · rename_i h
            exact sane_works S _ _ _ (wants_ok h)
  | arrive k =>
    unfold Hs08.step; dsimp only
    split
    · split
      · exact S'
      · refine Sane.serves ?_ _
        exact ⟨S.len, S.ba, fun r' hr2 => S.ok r' (List.mem_of_mem_eraseIdx hr2), S.szi, Nat.le_trans (List.length_eraseIdx_le ..) S.sza, S.szr, S.op⟩
    · exact S'
  | air => exact S'
  | crash i =>
    unfold Hs08.step; dsimp only
    split
    · exact S'
    · split
      · exact S'
      · exact sane_setWorker S' _ _
  | start i =>
    unfold Hs08.step; dsimp only
    split
    · exact S'
    · split
      · exact S'
      · exact sane_setWorker S' _ _
  | push j =>
    unfold Hs08.step; dsimp only
    split
    · exact S'
    · split
      · split
        · exact S'
        · rename_i h
          exact sane_marks S _ _ fun z => h (.inl z)
      · exact S'
  | expire =>
    unfold Hs08.step; dsimp only
    split
    · split
      · exact ⟨S'.len, S'.ba, S'.ok, S'.szi, S'.sza, S'.szr, fun u e z => by cases e; cases z⟩
      · exact S'
    · exact S'
  | read j n => exact S'
  | raw j => exact S'
  | worker i => exact S'
  | keeper => exact S'
theorem sane_init : Sane Hs08.init 0 := sane_fresh (by decide) 0
/-! ### how the calls lie in the list -/
def ar (c : Nat) : Nat := [1, 1, 2, 1, 0, 1, 1, 1, 0, 2, 1, 1, 0].getD c 0
def mkc (c : Nat) (ns : List Nat) : Hs08.Call := match c with
  | 0 => .begin_ (ns.getD 0 0)
  | 1 => .input (ns.getD 0 0)
  | 2 => .work (ns.getD 0 0) (ns.getD 1 0)
  | 3 => .arrive (ns.getD 0 0)
  | 4 => .air
  | 5 => .crash (ns.getD 0 0)
  | 6 => .start (ns.getD 0 0)
  | 7 => .push (ns.getD 0 0)
  | 8 => .expire
  | 9 => .read (ns.getD 0 0) (ns.getD 1 0)
  | 10 => .raw (ns.getD 0 0)
  | 11 => .worker (ns.getD 0 0)
  | _ => .keeper
theorem shape_some {p : Int} {n k : Nat} (h : PyHs08.shape p = some (n, k)) : ∃ c : Nat, c < 13 ∧ p = (c : Int) ∧ n = ar c ∧ k = 0 := by
  unfold PyHs08.shape at h
  by_cases e0 : p = 0
  · rw [if_pos e0] at h; cases h; exact ⟨0, by decide, e0, rfl, rfl⟩
  rw [if_neg e0] at h
  by_cases e1 : p = 1
  · rw [if_pos e1] at h; cases h; exact ⟨1, by decide, e1, rfl, rfl⟩
  rw [if_neg e1] at h
  by_cases e2 : p = 2
  · rw [if_pos e2] at h; cases h; exact ⟨2, by decide, e2, rfl, rfl⟩
  rw [if_neg e2] at h
  by_cases e3 : p = 3
  · rw [if_pos e3] at h; cases h; exact ⟨3, by decide, e3, rfl, rfl⟩
  rw [if_neg e3] at h
  by_cases e4 : p = 4
  · rw [if_pos e4] at h; cases h; exact ⟨4, by decide, e4, rfl, rfl⟩
  rw [if_neg e4] at h
  by_cases e5 : p = 5
  · rw [if_pos e5] at h; cases h; exact ⟨5, by decide, e5, rfl, rfl⟩
  rw [if_neg e5] at h
  by_cases e6 : p = 6
  · rw [if_pos e6] at h; cases h; exact ⟨6, by decide, e6, rfl, rfl⟩
  rw [if_neg e6] at h
  by_cases e7 : p = 7
  · rw [if_pos e7] at h; cases h; exact ⟨7, by decide, e7, rfl, rfl⟩
  rw [if_neg e7] at h
  by_cases e8 : p = 8
  · rw [if_pos e8] at h; cases h; exact ⟨8, by decide, e8, rfl, rfl⟩
  rw [if_neg e8] at h
  by_cases e9 : p = 9
  · rw [if_pos e9] at h; cases h; exact ⟨9, by decide, e9, rfl, rfl⟩
  rw [if_neg e9] at h
  by_cases e10 : p = 10
  · rw [if_pos e10] at h; cases h; exact ⟨10, by decide, e10, rfl, rfl⟩
  rw [if_neg e10] at h
  by_cases e11 : p = 11
  · rw [if_pos e11] at h; cases h; exact ⟨11, by decide, e11, rfl, rfl⟩
  rw [if_neg e11] at h
  by_cases e12 : p = 12
  · rw [if_pos e12] at h; cases h; exact ⟨12, by decide, e12, rfl, rfl⟩
  rw [if_neg e12] at h
  cases h
theorem parse_step {f : Nat} {p : Int} {r : List Int} {raw : List (List (List Int))} (h : PyFlat.calls PyHs08.shape f (p :: r) = some raw) :
    ∃ (c f' : Nat) (raw' : List (List (List Int))), c < 13 ∧ p = (c : Int) ∧ ar c ≤ r.length ∧ raw = [p :: r.take (ar c)] :: raw' ∧ PyFlat.calls PyHs08.shape f' (r.drop (ar c)) = some raw' := by
  cases f with
  | zero => unfold PyFlat.calls at h; cases h
  | succ f =>
    unfold PyFlat.calls at h
    cases hc : PyFlat.call PyHs08.shape (p :: r) with
    | none => rw [hc] at h; cases h
    | some ct =>
      obtain ⟨cc, t⟩ := ct
      rw [hc] at h
      dsimp only at h
      unfold PyFlat.call at hc
      dsimp only at hc
      cases hs : PyHs08.shape p with
      | none => rw [hs] at hc; cases hc
      | some nk =>
        obtain ⟨n, k⟩ := nk
        obtain ⟨c, hc13, hp, rfl, rfl⟩ := shape_some hs
        rw [hs] at hc
        dsimp only at hc
        split at hc
        · cases hc
        · rename_i hlen
          unfold PyFlat.rows at hc
          dsimp only at hc
          cases hc
          cases hr : PyFlat.calls PyHs08.shape f (r.drop (ar c)) with
          | none => rw [hr] at h; cases h
          | some cs =>
            rw [hr] at h
            cases h
            exact ⟨c, f, cs, hc13, hp, by omega, rfl, hr⟩
theorem parse_nil {f : Nat} {raw : List (List (List Int))} (h : PyFlat.calls PyHs08.shape f [] = some raw) : raw = [] := by
  unfold PyFlat.calls at h
  cases f <;> (cases h; rfl)
theorem nat_ok {z : Int} (h0 : 0 ≤ z) (h1 : z ≤ 4294967295) : Hs08Neutral.nat z = true := by
  unfold Hs08Neutral.nat
  rw [Bool.and_eq_true, decide_eq_true_iff, decide_eq_true_iff]
  exact ⟨h0, by omega⟩
theorem ints_toNat : ∀ ns : List Nat, (Hs08.ints ns).map Int.toNat = ns
  | [] => rfl
  | n :: r => by
    have ih := ints_toNat r
    unfold Hs08.ints at ih ⊢
    rw [List.map_cons, List.map_cons, ih]
    rfl
theorem callOf_one {l : List Int} (h : l.all Hs08Neutral.nat = true) : Hs08Neutral.callOf [l] = Hs08Neutral.callIn [l.map Int.toNat] := by
  have e : List.all [l] (fun r => r.all Hs08Neutral.nat) = true := by
    rw [List.all_cons, h]; rfl
  unfold Hs08Neutral.callOf
  rw [e, if_neg (by decide)]
  rfl
theorem whole_0 (x : Nat) : Hs08Neutral.callIn [[0, x]] = some (mkc 0 [x]) ∧ PyHs08.whole [((0 : Nat) : Int) :: Hs08.ints [x]] = [((0 : Nat) : Int) :: Hs08.ints [x]] := ⟨rfl, rfl⟩
theorem whole_1 (x : Nat) : Hs08Neutral.callIn [[1, x]] = some (mkc 1 [x]) ∧ PyHs08.whole [((1 : Nat) : Int) :: Hs08.ints [x]] = [((1 : Nat) : Int) :: Hs08.ints [x]] := ⟨rfl, rfl⟩
theorem whole_2 (x y : Nat) : Hs08Neutral.callIn [[2, x, y]] = some (mkc 2 [x, y]) ∧ PyHs08.whole [((2 : Nat) : Int) :: Hs08.ints [x, y]] = [((2 : Nat) : Int) :: Hs08.ints [x, y]] := ⟨rfl, rfl⟩
theorem whole_3 (x : Nat) : Hs08Neutral.callIn [[3, x]] = some (mkc 3 [x]) ∧ PyHs08.whole [((3 : Nat) : Int) :: Hs08.ints [x]] = [((3 : Nat) : Int) :: Hs08.ints [x]] := ⟨rfl, rfl⟩
theorem whole_4 : Hs08Neutral.callIn [[4]] = some (mkc 4 []) ∧ PyHs08.whole [((4 : Nat) : Int) :: Hs08.ints []] = [((4 : Nat) : Int) :: Hs08.ints []] := ⟨rfl, rfl⟩
theorem whole_5 (x : Nat) : Hs08Neutral.callIn [[5, x]] = some (mkc 5 [x]) ∧ PyHs08.whole [((5 : Nat) : Int) :: Hs08.ints [x]] = [((5 : Nat) : Int) :: Hs08.ints [x]] := ⟨rfl, rfl⟩
theorem whole_6 (x : Nat) : Hs08Neutral.callIn [[6, x]] = some (mkc 6 [x]) ∧ PyHs08.whole [((6 : Nat) : Int) :: Hs08.ints [x]] = [((6 : Nat) : Int) :: Hs08.ints [x]] := ⟨rfl, rfl⟩
theorem whole_7 (x : Nat) : Hs08Neutral.callIn [[7, x]] = some (mkc 7 [x]) ∧ PyHs08.whole [((7 : Nat) : Int) :: Hs08.ints [x]] = [((7 : Nat) : Int) :: Hs08.ints [x]] := ⟨rfl, rfl⟩
theorem whole_8 : Hs08Neutral.callIn [[8]] = some (mkc 8 []) ∧ PyHs08.whole [((8 : Nat) : Int) :: Hs08.ints []] = [((8 : Nat) : Int) :: Hs08.ints []] := ⟨rfl, rfl⟩
theorem whole_9 (x y : Nat) : Hs08Neutral.callIn [[9, x, y]] = some (mkc 9 [x, y]) ∧ PyHs08.whole [((9 : Nat) : Int) :: Hs08.ints [x, y]] = [((9 : Nat) : Int) :: Hs08.ints [x, y]] := ⟨rfl, rfl⟩
theorem whole_10 (x : Nat) : Hs08Neutral.callIn [[10, x]] = some (mkc 10 [x]) ∧ PyHs08.whole [((10 : Nat) : Int) :: Hs08.ints [x]] = [((10 : Nat) : Int) :: Hs08.ints [x]] := ⟨rfl, rfl⟩
theorem whole_11 (x : Nat) : Hs08Neutral.callIn [[11, x]] = some (mkc 11 [x]) ∧ PyHs08.whole [((11 : Nat) : Int) :: Hs08.ints [x]] = [((11 : Nat) : Int) :: Hs08.ints [x]] := ⟨rfl, rfl⟩
theorem whole_12 : Hs08Neutral.callIn [[12]] = some (mkc 12 []) ∧ PyHs08.whole [((12 : Nat) : Int) :: Hs08.ints []] = [((12 : Nat) : Int) :: Hs08.ints []] := ⟨rfl, rfl⟩
theorem le_cast {n m : Nat} (h : n ≤ m) : (n : Int) ≤ (m : Int) := Int.ofNat_le.mpr h
theorem nat_ok2 {n : Nat} (h : n ≤ 4294967295) : Hs08Neutral.nat (n : Int) = true := nat_ok (Int.natCast_nonneg n) (le_cast h)
theorem all_nat {c : Nat} {ns : List Nat} (hc : c < 13) (hb : ∀ n ∈ ns, n ≤ 4294967295) : ((c : Int) :: Hs08.ints ns).all Hs08Neutral.nat = true := by
  rw [List.all_eq_true]
  intro z hz
  rcases List.mem_cons.mp hz with rfl | hz
  · exact nat_ok2 (Nat.le_trans (Nat.le_of_lt hc) (by decide))
  · unfold Hs08.ints at hz
    obtain ⟨n, hn, rfl⟩ := List.mem_map.mp hz
    exact nat_ok2 (hb n hn)
theorem step_of {s : Hs08.St} {l : List (List Int)} {x : Hs08.Call} (h : Hs08Neutral.callOf l = some x) : Hs08Neutral.step s l = Hs08.step s x := by
  unfold Hs08Neutral.step
  rw [h]
theorem step_eq {c : Nat} {ns : List Nat} (hc : c < 13) (hl : ns.length = ar c) (hb : ∀ n ∈ ns, n ≤ 4294967295) (s : Hs08.St) :
    Hs08Neutral.step s (PyHs08.whole [(c : Int) :: Hs08.ints ns]) = Hs08.step s (mkc c ns) := by
  have hall := all_nat hc hb
  have hin : Hs08Neutral.callIn [c :: ns] = some (mkc c ns) ∧ PyHs08.whole [(c : Int) :: Hs08.ints ns] = [(c : Int) :: Hs08.ints ns] := by
    clear hall hb
    have h13 : c = 0 ∨ c = 1 ∨ c = 2 ∨ c = 3 ∨ c = 4 ∨ c = 5 ∨ c = 6 ∨ c = 7 ∨ c = 8 ∨ c = 9 ∨ c = 10 ∨ c = 11 ∨ c = 12 := by omega
    rcases h13 with rfl | rfl | rfl | rfl | rfl | rfl | rfl | rfl | rfl | rfl | rfl | rfl | rfl
    · obtain ⟨x, rfl⟩ := len1 hl
      exact whole_0 x
    · obtain ⟨x, rfl⟩ := len1 hl
      exact whole_1 x
    · obtain ⟨x, y, rfl⟩ := len2 hl
      exact whole_2 x y
    · obtain ⟨x, rfl⟩ := len1 hl
      exact whole_3 x
    · obtain rfl := len0 hl
      exact whole_4
    · obtain ⟨x, rfl⟩ := len1 hl
      exact whole_5 x
    · obtain ⟨x, rfl⟩ := len1 hl
      exact whole_6 x
    · obtain ⟨x, rfl⟩ := len1 hl
      exact whole_7 x
    · obtain rfl := len0 hl
      exact whole_8
    · obtain ⟨x, y, rfl⟩ := len2 hl
      exact whole_9 x y
    · obtain ⟨x, rfl⟩ := len1 hl
      exact whole_10 x
    · obtain ⟨x, rfl⟩ := len1 hl
      exact whole_11 x
    · obtain rfl := len0 hl
      exact whole_12
  rw [hin.2]
  refine step_of ?_
  rw [callOf_one hall, List.map_cons, ints_toNat, Int.toNat_natCast]
  exact hin.1
end Sw

namespace Sw
open PySem PySem.Spec PyProof.Rows L2
/-- a tuple of the written part -/
def TupK (K : PySem.W.Frag) (a : Addr) (xs : List V) : Prop := ∃ (o : Obj) (its : Array Value) (n : Nat), K.lookup a = some o ∧ o.cls = .type "tuple" ∧ o.data = .seq its n ∧ its.size ≤ sizeLine ∧ Vals xs its.toList
/-- the table of calls: by a call's number what serves it, and how many numbers it has -/
structure Table (P : Program) (w : World) (K : PySem.W.Frag) (mg : Str → Option Value) (base : Heap) (C : Cs) (k : Nat) : Prop where
  ex : ∃ dC, mg "CALLS" = some (.ref dC) ∧ ∀ c : Nat, c < 13 → ∃ t f, KDi K dC (c : Int) (.ref t) ∧ TupK K t [.ref f, vn (ar c)] ∧ Held P w K mg base k f (spCall C (ar c) (mkc c))
def spAns (K : PySem.W.Frag) : Sp := fun vs H Q _ => ∃ (l : Addr) (ns : List Int), vs = [.ref l] ∧ SqL K H l (ns.map V.int) ∧ (∀ x ∈ ns, 0 ≤ x ∧ x ≤ 4294967295) ∧ PyHs08.answers_asked ns = true ∧
  ∀ (H' : Hp) (p : Addr), H' p = some (.lst ((PyHs08.answers ns).map V.int)) → Q (.ref p) H'
theorem asked_facts {ns : List Int} (h : PyHs08.answers_asked ns = true) : ∃ raw, PyFlat.calls PyHs08.shape ns.length ns = some raw ∧ raw.length ≤ 200 ∧ (PyHs08.answers ns).length ≤ 10000000 ∧ PyHs08.answers ns = PyFlat.told (PyFlat.played Hs08Neutral.step Hs08.init (raw.map PyHs08.whole)) := by
  unfold PyHs08.answers_asked at h
  cases e : PyFlat.calls PyHs08.shape ns.length ns with
  | none => rw [e] at h; cases h
  | some raw =>
    rw [e] at h
    dsimp only at h
    simp only [Bool.and_eq_true] at h
    obtain ⟨⟨⟨⟨h1, h2⟩, h3⟩, h4⟩, h5⟩ := h
    refine ⟨raw, rfl, of_decide_eq_true h2, of_decide_eq_true h5, ?_⟩
    unfold PyHs08.answers PyHs08.calls
    rw [e]
    rfl
theorem told_cons (a : List Int) (l : List (List Int)) : PyFlat.told (a :: l) = ((a.length : Int) :: a) ++ PyFlat.told l := by
  unfold PyFlat.told
  rw [List.flatMap_cons]
theorem nats_of : ∀ {l : List Int}, (∀ x ∈ l, 0 ≤ x) → l = Hs08.ints (l.map Int.toNat)
  | [], _ => rfl
  | x :: r, h => by
    have ih := nats_of (l := r) fun y hy => h y (List.mem_cons_of_mem _ hy)
    have hx := h x (List.mem_cons_self ..)
    unfold Hs08.ints at ih ⊢
    rw [List.map_cons, List.map_cons, ← ih]
    rw [Int.toNat_of_nonneg hx]
theorem cut_mid {ns : List Int} {i n : Nat} (h : i + n ≤ ns.length) : cutV (ns.map V.int) (some (i : Int)) (some ((i + n : Nat) : Int)) = ((ns.drop i).take n).map V.int := by
  unfold cutV
  rw [HT.sIx_nat, HT.sIx_nat, List.length_map, Nat.min_eq_left (by omega), Nat.min_eq_left (by omega), Nat.add_sub_cancel_left, ← List.map_drop, ← List.map_take]
def slotN (σ : L2.St) (i : Nat) : Nat := match (σ[i]? : Option (Option V)) with
  | some (some (V.int z)) => z.toNat
  | _ => 0
section
variable {P : Program} {w : World} {K : PySem.W.Frag} {mg : Str → Option Value} {base : Heap} {C : Cs}
theorem ok_answers {f : Addr} {fd : FuncData} (F : Fun K "answers" "answers" s_answers f fd) (T : Txt K mg C.T C.K C.L C.W C.J) (D : Table P w K mg base C 8) : FnOk P w K mg base CX0 9 f fd ["calls"] (spAns K) := by
  obtain ⟨f1, fd1, M_Job, B_Job, G_Job⟩ := ok_Job_init (P := P) (w := w) (base := base) T
  obtain ⟨dC, mg_CALLS, tab⟩ := D.ex
  refine F.ok c_answers (fun vs H Q E h => ?_) (fun cdv A outer s H vs Q E hr h => ?_)
  · obtain ⟨l, ns, rfl, _⟩ := h
    rfl
  · obtain ⟨l, ns, rfl, hl, hb, hask, k⟩ := h
    have nd := c_answers.nd
    obtain ⟨raw, hraw, hr200, hlen, hans⟩ := asked_facts hask
    refine ⟨_, (pss_cons (ps_set (i := 1) nd rfl (Or.inl rfl) (pe_make0 M_Job G_Job (hr.mono (by decide)) rfl T.Job.mgC B_Job .nil pass0))
      (pss_cons (ps_set (i := 2) nd rfl (Or.inl rfl) (pe_lst pa_nil))
      (pss_cons (ps_set (i := 3) nd rfl (Or.inl rfl) pe_int)
      (pss_cons (ps_while PassesOwn.never (pt_cmpR op_lt (pv 3) (pe_callB call_len_seq (by rfl) T.b_len PySem.boot_len (pa_cons (pv 0) pa_nil)) (nomark _)) (pss_cons (ps_set (i := 4) nd rfl (Or.inl rfl) (pe_ix ix_kdi (pe_glob (v := .ref _) rfl mg_CALLS rfl) (pe_ix ix_list (pv 0) (pv 3) (fun _ _ => rfl)) (fun _ _ => rfl)))
      (pss_cons (ps_set (i := 5) nd rfl (Or.inl rfl) (pe_op op_add (pe_op op_add (pv 3) pe_int) (pe_ix ix_tup (pv 4) pe_int (fun _ _ => rfl))))
      (pss_cons (ps_set (i := 6) nd rfl (Or.inl rfl) (pe_callX (k := 8) (hr.mono (by decide)) (pe_ix ix_tup (pv 4) pe_int (fun _ _ => rfl)) (pa_cons (pv 1) (pa_cons (pe_slice sl_list (pv 0) (po_some (pe_op op_add (pv 3) pe_int)) (po_some (pv 5))) pa_nil))))
      (pss_cons (ps_expr (pe_bm PySem.F.plainAttrs_list PySem.F.slot_list_append PySem.F.type_list_append mt_append (pv 2) (pa_cons (pe_callB call_len_seq (by rfl) T.b_len PySem.boot_len (pa_cons (pv 6) pa_nil)) pa_nil)))
      (pss_cons (ps_expr (pe_bm PySem.F.plainAttrs_list PySem.F.slot_list_extend PySem.F.type_list_extend mt_extend (pv 2) (pa_cons (pv 6) pa_nil)))
      (pss_one (ps_set (i := 3) nd rfl (Or.inl rfl) (pv 5)))))))))
      (pss_one (ps_ret (pv 2))))))), ?_⟩
    -- job = Job()
    intro a dj na ndj naj
    have nja : a ≠ dj := fun z => naj z.symm
    refine ⟨a, dj, paint (fun _ => none) [a] (some .job), rfl, upd_same, paint_in (by simp), fun H1 col1 A1 J1 fr1 => ⟨rfl, ?_⟩⟩
    have s1 : Same H H1 := fun b o hbo => fr1.keep _ _ (by rw [upd_ne (ne_of_none hbo na), upd_ne (ne_of_none hbo ndj)]; exact hbo) (paint_out (by simpa using ne_of_none hbo na))
    have cn1 : ∀ b, H b ≠ none → col1 b = none := fun b hbo => by
      have nb : b ≠ a := fun z => hbo (by rw [z]; exact na)
      have nb2 : b ≠ dj := fun z => hbo (by rw [z]; exact ndj)
      exact fr1.cn b (by rw [upd_ne nb, upd_ne nb2]; exact hbo) (paint_out (by simpa using nb))
    -- told = []; at = 0
    refine ⟨Nat.zero_le _, fun p hp => ?_⟩
    have x2 : Ext H1 col1 (paint col1 [p] none) := ext_paint (by intro b hb'; simp only [List.mem_cons, List.not_mem_nil, or_false] at hb'; rw [hb']; exact .inl hp)
    have s2 : Same H1 (upd H1 p (.lst [])) := same_new hp
    have J2 : JobAt C (paint col1 [p] none) A1 (upd H1 p (.lst [])) a Hs08.init := J1.keep (S := []) (Kp.new hp) (by simp) x2
    have live1 : ∀ b, H b ≠ none → H1 b ≠ none := fun b hbo => by
      cases e : H b with
      | none => exact absurd e hbo
      | some o => rw [s1 b o e]; simp
    refine while_by (fun σ H' => ∃ (i : Nat) (v4 v5 v6 : Option V) (s : Hs08.St) (col : Col) (A : Ad) (acc : List Int) (g : Nat) (rw' : List (List (List Int))) (N : Nat),
        σ = [some (.ref l), some (.ref a), some (.ref p), some (vn i), v4, v5, v6] ∧ Same H H' ∧ (∀ b, H b ≠ none → col b = none) ∧ JobAt C col A H' a s ∧ H' p = some (.lst (acc.map V.int)) ∧ col p = none ∧ Sane s N ∧ N + rw'.length ≤ 200 ∧
        PyFlat.calls PyHs08.shape g (ns.drop i) = some rw' ∧ i ≤ ns.length ∧ PyHs08.answers ns = acc ++ PyFlat.told (PyFlat.played Hs08Neutral.step s (rw'.map PyHs08.whole)))
      (fun (σ : L2.St) (H' : Hp) => ns.length - slotN σ 3)
      ⟨0, none, none, none, Hs08.init, _, A1, [], ns.length, raw, 0, rfl, s1.trans s2, fun b hbo => by rw [x2 b (live1 b hbo)]; exact cn1 b hbo, J2, upd_same, paint_in (by simp), sane_init, by omega, hraw, Nat.zero_le _, hans⟩ ?_ ?_
    · rintro σ H' ⟨i, v4, v5, v6, s, col, A, acc, g, rw', N, rfl, sH, cn, J, hp', cp, S, hN, hpar, hile, heq⟩
      have hl' := sH.seq hl
      refine ⟨_, rfl, _, rfl, l, _, rfl, .inl hl', _, _, rfl, rfl, _, rfl, ite2 (fun c => ?_) (fun c => ?_)⟩
      · have hi : i < ns.length := by
          have := of_decide_eq_true c
          rw [List.length_map] at this
          omega
        obtain ⟨p0, r, hdrop⟩ : ∃ p0 r, ns.drop i = p0 :: r := by
          cases e : ns.drop i with
          | nil =>
            have := List.drop_eq_nil_iff.mp e
            omega
          | cons x y => exact ⟨x, y, rfl⟩
        rw [hdrop] at hpar
        obtain ⟨c0', g', raw', hc13, hp0, har, hraw', hpar'⟩ := parse_step hpar
        obtain ⟨t, fa, hkd, htk, hheld⟩ := tab c0' hc13
        have hgi : ns[i]? = some p0 := by
          have h1 : (ns.drop i)[0]? = some p0 := by rw [hdrop]; rfl
          rw [List.getElem?_drop] at h1
          exact h1
        have hr' : ns.drop (i + 1) = r := by
          have h1 : (ns.drop i).drop 1 = r := by rw [hdrop]; rfl
          rw [List.drop_drop] at h1
          exact h1
        have hrlen : r.length = ns.length - (i + 1) := by rw [← hr', List.length_drop]
        have hsub : ∀ x ∈ r, x ∈ ns := fun x hx => List.mem_of_mem_drop (i := i + 1) (by rw [hr']; exact hx)
        have htup : ∀ Hx : Hp, SqT K Hx t [.ref fa, vn (ar c0')] := fun Hx => .inr htk
        -- call = CALLS[calls[at]]
        refine ⟨_, rfl, _, rfl, l, _, _, V.int p0, rfl, rfl, hl', atI_nat (by rw [List.getElem?_map, hgi]; rfl), dC, p0, .ref t, rfl, rfl, by rw [hp0]; exact hkd, ?_⟩
        -- behind = at + 1 + call[1]
        refine ⟨_, rfl, _, _, rfl, rfl, _, rfl, t, _, _, vn (ar c0'), rfl, rfl, htup _, (by rfl), _, _, rfl, rfl, ?_⟩
        -- answer = call[0](job, calls[at + 1:behind])
        refine ⟨_, rfl, t, _, _, .ref fa, rfl, rfl, htup _, (by rfl), fa, spCall C (ar c0') (mkc c0'), rfl, hheld, ?_⟩
        refine ⟨_, rfl, _, rfl, _, rfl, _, _, rfl, rfl, ((i + 1 : Nat) : Int), rfl, _, rfl, ((i + 1 + ar c0' : Nat) : Int), rfl, l, _, rfl, hl', fun q hq => ?_⟩
        have hargs : cutV (ns.map V.int) (some ((i + 1 : Nat) : Int)) (some ((i + 1 + ar c0' : Nat) : Int)) = (r.take (ar c0')).map V.int := by
          rw [cut_mid (by omega), hr']
        have hnat : r.take (ar c0') = Hs08.ints ((r.take (ar c0')).map Int.toNat) := nats_of fun x hx => (hb x (hsub x (List.mem_of_mem_take hx))).1
        obtain ⟨ms, hms⟩ : ∃ ms : List Nat, ms = (r.take (ar c0')).map Int.toNat := ⟨_, rfl⟩
        have hmlen : ms.length = ar c0' := by rw [hms, List.length_map, List.length_take, Nat.min_eq_left har]
        have hmb : ∀ n ∈ ms, n ≤ 4294967295 := fun n hn => by
          rw [hms] at hn
          obtain ⟨x, hx, rfl⟩ := List.mem_map.mp hn
          have := hb x (hsub x (List.mem_of_mem_take hx))
          omega
        rw [← hms] at hnat
        have hq1 : (upd H' q (.lst (cutV (ns.map V.int) (some ((i + 1 : Nat) : Int)) (some ((i + 1 + ar c0' : Nat) : Int))))) q = some (.lst (ms.map vn)) := by
          rw [upd_same, hargs, hnat, vnl]
        have sq : Same H' (upd H' q (.lst (cutV (ns.map V.int) (some ((i + 1 : Nat) : Int)) (some ((i + 1 + ar c0' : Nat) : Int))))) := same_new hq
        have Jq : JobAt C col A (upd H' q (.lst (cutV (ns.map V.int) (some ((i + 1 : Nat) : Int)) (some ((i + 1 + ar c0' : Nat) : Int))))) a s := J.new hq
        generalize upd H' q (.lst (cutV (ns.map V.int) (some ((i + 1 : Nat) : Int)) (some ((i + 1 + ar c0' : Nat) : Int)))) = H2 at hq1 sq Jq ⊢
        rw [hraw', List.length_cons] at hN
        refine ⟨a, q, ms, col, A, s, N, rfl, hmlen, hq1, Jq, S, by omega, fun H3 col3 A3 q3 J3 hq3 fp3 => ?_⟩
        have s3 : Same H H3 := fun b o hbo => fp3.fr.keep _ _ (sq _ _ (sH _ _ hbo)) (cn b (by rw [hbo]; simp))
        have hp2 := sq _ _ hp'
        have hp3 : H3 p = some (.lst (acc.map V.int)) := fp3.fr.keep _ _ hp2 cp
        have cp3 : col3 p = none := fp3.fr.cn p (live hp2) cp
        have nqp : q3 ≠ p := by
          intro z
          rcases fp3.new with y | y
          · rw [z, hp2] at y; cases y
          · rw [z] at y; exact y cp
        -- what is told now
        have hstep : Hs08Neutral.step s (PyHs08.whole [p0 :: r.take (ar c0')]) = Hs08.step s (mkc c0' ms) := by
          rw [hnat, hp0]; exact step_eq hc13 hmlen hmb s
        have heq' : PyHs08.answers ns = (acc ++ (((Hs08.step s (mkc c0' ms)).2.length : Int) :: (Hs08.step s (mkc c0' ms)).2)) ++ PyFlat.told (PyFlat.played Hs08Neutral.step (Hs08.step s (mkc c0' ms)).1 (raw'.map PyHs08.whole)) := by
          rw [heq, hraw', List.map_cons]
          show acc ++ PyFlat.told ((Hs08Neutral.step s (PyHs08.whole [p0 :: r.take (ar c0')])).2 :: PyFlat.played Hs08Neutral.step (Hs08Neutral.step s (PyHs08.whole [p0 :: r.take (ar c0')])).1 (raw'.map PyHs08.whole)) = _
          rw [hstep, told_cons, List.append_assoc]
        have hsan := sane_step S (mkc c0' ms)
        obtain ⟨ans, hansd⟩ : ∃ ans, ans = (Hs08.step s (mkc c0' ms)).2 := ⟨_, rfl⟩
        rw [← hansd] at hq3 heq'
        have hsz : acc.length + (ans.length + 1) ≤ 10000000 := by
          have h1 := congrArg List.length heq'
          rw [List.length_append, List.length_append, List.length_cons] at h1
          omega
        have hsl : (16777216 : Nat) = sizeLine := rfl
        -- told.append(len(answer))
        refine ⟨_, rfl, .inl ⟨rfl, _, SqL.of hp3⟩, _, rfl, q3, _, rfl, .inl (SqL.of hq3), p, _, _, rfl, rfl, hp3, ?_, ?_⟩
        · rw [List.length_map]; omega
        · -- told.extend(answer)
          refine ⟨_, rfl, .inl ⟨rfl, _, SqL.of upd_same⟩, _, rfl, p, q3, _, _, rfl, rfl, upd_same, by rw [upd_ne nqp]; exact hq3, ?_, ?_⟩
          · rw [List.length_append, List.length_map, List.length_map]
            show acc.length + 1 + ans.length ≤ sizeLine
            omega
          · -- at = behind
            refine ⟨_, rfl, ?_⟩
            rw [upd_upd]
            refine ⟨⟨i + 1 + ar c0', _, _, _, (Hs08.step s (mkc c0' ms)).1, col3, A3, acc ++ ((ans.length : Int) :: ans), g', raw', N + 1, rfl, ?_, ?_, ?_, ?_, cp3, hsan, by omega, ?_, by omega, heq'⟩, ?_⟩
            · intro b o hbo
              have nbp : b ≠ p := by
                intro z
                have h1 := s1 _ _ hbo
                rw [z, hp] at h1
                cases h1
              rw [upd_ne nbp]
              exact s3 _ _ hbo
            · intro b hbo
              cases e : H b with
              | none => exact absurd e hbo
              | some o => exact fp3.fr.cn b (live (sq _ _ (sH _ _ e))) (cn b hbo)
            · exact J3.keep (S := [p]) (Kp.upd (by simp) hp3 (by intro xs z; cases z)) (by intro b hb'; simp only [List.mem_cons, List.not_mem_nil, or_false] at hb'; rw [hb']; exact cp3) (Ext.refl _ _)
            · rw [upd_same, List.map_append, List.append_assoc, List.map_cons, List.length_map]
              rfl
            · rw [← hr', List.drop_drop] at hpar'
              exact hpar'
            · show ns.length - (i + 1 + ar c0' : Nat) < ns.length - i
              omega
      · have hi : ¬ i < ns.length := fun z => c (decide_eq_true (by rw [List.length_map]; omega))
        rw [List.drop_eq_nil_iff.mpr (by omega)] at hpar
        rw [parse_nil hpar] at heq
        refine ⟨_, rfl, k H' p ?_⟩
        rw [heq, hp']
        show some (HO.lst (acc.map V.int)) = some (HO.lst ((acc ++ []).map V.int))
        rw [List.append_nil]
    · rintro σ H' Q1 Q2 hm ⟨u, hu, v, hv, p1, ys, e1, hs, i1, j1, e2, e3, b1, e4, q⟩
      exact ⟨u, hu, v, hv, p1, ys, e1, hs, i1, j1, e2, e3, b1, e4, hm _ _ q⟩
end
end Sw

namespace Sw
open PySem PySem.Spec PyProof.Rows L2
section
variable {K : PySem.W.Frag} {h : Heap} {mg : Str → Option Value}
theorem klass_mk {x : Str} {C : Addr} (X : K.In h) (G : h.Ns mainGlobals mg) (a : PySem.W.nsIn K mainGlobals x = some (some (.ref C))) (pg : PySem.W.plainGet K C Str.empty = true) (hd : PySem.W.hasDictIn K C = true) (po : PySem.W.plainOver K C = true)
    (sa : PySem.W.findIn K (.ref C) "__setattr__" = some (some (.builtin "object.__setattr__"))) (mk : PySem.W.makesIn K C = true) (kc : PySem.W.keepIn K (.ref C) = true) : Klass K mg x C := ⟨⟨pg, hd, po, sa⟩, PySem.W.mg_of X G a, mk, kc⟩
theorem mf_mk {C f : Addr} {m qual : Str} {st : Stmt} {ps : List Str} {oc : Value} {od an : Option Addr} {sl : Array (Option Value)} {kV dc pm cd ct : Value} (a : PySem.W.findIn K (.ref C) m = some (some (.ref f))) (i : PySem.W.isFn K (.ref f) = true)
    (l : K.lookup f = some ⟨oc, od, .func (PySem.W.fnOf m qual (defArgs st) (defBody st) (defScope st) .none kV dc pm an cd ct), sl⟩) (c : PySem.W.codeIn K cd qual = true) (k : PySem.W.keepIn K (.ref f) = true)
    (b : ∀ (kV doc pm : Value) (an : Option Addr) (cdv ct : Value) (us : List Value), us.length = ps.length → bindArgs (PySem.W.fnOf m qual (defArgs st) (defBody st) (defScope st) .none kV doc pm an cdv ct) ⟨us, []⟩ = pure (ps.zip us)) : MF K C m qual st ps :=
  have F := fun_mk (st := st) l c k
  ⟨f, _, ⟨a, i, k⟩, F, F.binds b⟩
theorem gf_mk {f : Addr} {x : Str} {st : Stmt} {ps : List Str} {oc : Value} {od an : Option Addr} {sl : Array (Option Value)} {kV dc pm cd ct : Value} (X : K.In h) (G : h.Ns mainGlobals mg) (a : PySem.W.nsIn K mainGlobals x = some (some (.ref f)))
    (l : K.lookup f = some ⟨oc, od, .func (PySem.W.fnOf x x (defArgs st) (defBody st) (defScope st) .none kV dc pm an cd ct), sl⟩) (c : PySem.W.codeIn K cd x = true) (k : PySem.W.keepIn K (.ref f) = true)
    (b : ∀ (kV doc pm : Value) (an : Option Addr) (cdv ct : Value) (us : List Value), us.length = ps.length → bindArgs (PySem.W.fnOf x x (defArgs st) (defBody st) (defScope st) .none kV doc pm an cdv ct) ⟨us, []⟩ = pure (ps.zip us)) : GF K mg x st ps :=
  have F := fun_mk (st := st) l c k
  ⟨f, _, PySem.W.mg_of X G a, F, F.binds b⟩
theorem at_K (X : K.In h) (e : ∃ CT CK CL CW CJ, Txt K mg CT CK CL CW CJ) : ∃ CT CK CL CW CJ, Txt K mg CT CK CL CW CJ := e
theorem no_mk {C : Addr} {f : Str} (a : PySem.W.findIn K (.ref C) f = some none) : NoAttr K C f := a
theorem num_mk {x : Str} {n : Int} {t : Tok} (X : K.In h) (G : h.Ns mainGlobals mg) (a : PySem.W.nsIn K mainGlobals x = some (some (.int n t))) : Num mg x n := ⟨t, PySem.W.mg_of X G a⟩
theorem non_mk {x : Str} (X : K.In h) (G : h.Ns mainGlobals mg) (a : PySem.W.nsIn K mainGlobals x = some none) : mg x = none := PySem.W.mg_none_of X G a
end
section
variable {P : Program} {w : World} {K : PySem.W.Frag} {mg : Str → Option Value} {base h : Heap} {C : Cs}
theorem held_of {x : Str} {j k : Nat} {ps : List Str} {sp : Sp} {f : Addr} (G : GOk P w K mg base x j ps sp) (e : mg x = some (.ref f)) (hj : j ≤ k) : Held P w K mg base k f sp := by
  obtain ⟨f', fd, e', kp, B, F⟩ := G
  rw [e] at e'
  cases e'
  exact ⟨fd, ps, F.mono hj, kp, B⟩
theorem tab_mk {dC : Addr} {nn : Nat} {h0 h1 h2 h3 h4 h5 h6 h7 h8 h9 h10 h11 h12 : Int} {t0 u0 t1 u1 t2 u2 t3 u3 t4 u4 t5 u5 t6 u6 t7 u7 t8 u8 t9 u9 t10 u10 t11 u11 t12 u12 : Tok} {a0 f0 a1 f1 a2 f2 a3 f3 a4 f4 a5 f5 a6 f6 a7 f7 a8 f8 a9 f9 a10 f10 a11 f11 a12 f12 : Addr} {d0 d1 d2 d3 d4 d5 d6 d7 d8 d9 d10 d11 d12 : Option Addr} {n0 n1 n2 n3 n4 n5 n6 n7 n8 n9 n10 n11 n12 : Nat} {s0 s1 s2 s3 s4 s5 s6 s7 s8 s9 s10 s11 s12 : Array (Option Value)} (X : K.In h) (G : h.Ns mainGlobals mg) (T : Txt K mg C.T C.K C.L C.W C.J)
    (aD : PySem.W.nsIn K mainGlobals "CALLS" = some (some (.ref dC))) (lD : K.lookup dC = some ⟨.type "dict", none, .dict #[⟨h0, .int 0 t0, .ref a0⟩, ⟨h1, .int 1 t1, .ref a1⟩, ⟨h2, .int 2 t2, .ref a2⟩, ⟨h3, .int 3 t3, .ref a3⟩, ⟨h4, .int 4 t4, .ref a4⟩, ⟨h5, .int 5 t5, .ref a5⟩, ⟨h6, .int 6 t6, .ref a6⟩, ⟨h7, .int 7 t7, .ref a7⟩, ⟨h8, .int 8 t8, .ref a8⟩, ⟨h9, .int 9 t9, .ref a9⟩, ⟨h10, .int 10 t10, .ref a10⟩, ⟨h11, .int 11 t11, .ref a11⟩, ⟨h12, .int 12 t12, .ref a12⟩] nn, #[]⟩)
    (e0 : h0 = hashInt 0) (l0 : K.lookup a0 = some ⟨.type "tuple", d0, .seq #[.ref f0, .int 1 u0] n0, s0⟩) (g0 : PySem.W.nsIn K mainGlobals "call_begin" = some (some (.ref f0)))
    (e1 : h1 = hashInt 1) (l1 : K.lookup a1 = some ⟨.type "tuple", d1, .seq #[.ref f1, .int 1 u1] n1, s1⟩) (g1 : PySem.W.nsIn K mainGlobals "call_input" = some (some (.ref f1)))
    (e2 : h2 = hashInt 2) (l2 : K.lookup a2 = some ⟨.type "tuple", d2, .seq #[.ref f2, .int 2 u2] n2, s2⟩) (g2 : PySem.W.nsIn K mainGlobals "call_work" = some (some (.ref f2)))
    (e3 : h3 = hashInt 3) (l3 : K.lookup a3 = some ⟨.type "tuple", d3, .seq #[.ref f3, .int 1 u3] n3, s3⟩) (g3 : PySem.W.nsIn K mainGlobals "call_arrive" = some (some (.ref f3)))
    (e4 : h4 = hashInt 4) (l4 : K.lookup a4 = some ⟨.type "tuple", d4, .seq #[.ref f4, .int 0 u4] n4, s4⟩) (g4 : PySem.W.nsIn K mainGlobals "call_air" = some (some (.ref f4)))
    (e5 : h5 = hashInt 5) (l5 : K.lookup a5 = some ⟨.type "tuple", d5, .seq #[.ref f5, .int 1 u5] n5, s5⟩) (g5 : PySem.W.nsIn K mainGlobals "call_crash" = some (some (.ref f5)))
    (e6 : h6 = hashInt 6) (l6 : K.lookup a6 = some ⟨.type "tuple", d6, .seq #[.ref f6, .int 1 u6] n6, s6⟩) (g6 : PySem.W.nsIn K mainGlobals "call_start" = some (some (.ref f6)))
    (e7 : h7 = hashInt 7) (l7 : K.lookup a7 = some ⟨.type "tuple", d7, .seq #[.ref f7, .int 1 u7] n7, s7⟩) (g7 : PySem.W.nsIn K mainGlobals "call_push" = some (some (.ref f7)))
    (e8 : h8 = hashInt 8) (l8 : K.lookup a8 = some ⟨.type "tuple", d8, .seq #[.ref f8, .int 0 u8] n8, s8⟩) (g8 : PySem.W.nsIn K mainGlobals "call_expire" = some (some (.ref f8)))
    (e9 : h9 = hashInt 9) (l9 : K.lookup a9 = some ⟨.type "tuple", d9, .seq #[.ref f9, .int 2 u9] n9, s9⟩) (g9 : PySem.W.nsIn K mainGlobals "call_read" = some (some (.ref f9)))
    (e10 : h10 = hashInt 10) (l10 : K.lookup a10 = some ⟨.type "tuple", d10, .seq #[.ref f10, .int 1 u10] n10, s10⟩) (g10 : PySem.W.nsIn K mainGlobals "call_raw" = some (some (.ref f10)))
    (e11 : h11 = hashInt 11) (l11 : K.lookup a11 = some ⟨.type "tuple", d11, .seq #[.ref f11, .int 1 u11] n11, s11⟩) (g11 : PySem.W.nsIn K mainGlobals "call_worker" = some (some (.ref f11)))
    (e12 : h12 = hashInt 12) (l12 : K.lookup a12 = some ⟨.type "tuple", d12, .seq #[.ref f12, .int 0 u12] n12, s12⟩) (g12 : PySem.W.nsIn K mainGlobals "call_keeper" = some (some (.ref f12)))
    : ∃ dC, mg "CALLS" = some (.ref dC) ∧ ∀ c : Nat, c < 13 → ∃ t f, KDi K dC (c : Int) (.ref t) ∧ TupK K t [.ref f, vn (ar c)] ∧ Held P w K mg base 8 f (spCall C (ar c) (mkc c)) := by
  have keys : ∀ e ∈ (#[⟨h0, .int 0 t0, .ref a0⟩, ⟨h1, .int 1 t1, .ref a1⟩, ⟨h2, .int 2 t2, .ref a2⟩, ⟨h3, .int 3 t3, .ref a3⟩, ⟨h4, .int 4 t4, .ref a4⟩, ⟨h5, .int 5 t5, .ref a5⟩, ⟨h6, .int 6 t6, .ref a6⟩, ⟨h7, .int 7 t7, .ref a7⟩, ⟨h8, .int 8 t8, .ref a8⟩, ⟨h9, .int 9 t9, .ref a9⟩, ⟨h10, .int 10 t10, .ref a10⟩, ⟨h11, .int 11 t11, .ref a11⟩, ⟨h12, .int 12 t12, .ref a12⟩] : Array DictEntry), ∃ i t, e.key = .int i t ∧ e.hash = hashInt i := by
    intro e he
    simp only [List.mem_toArray, List.mem_cons, List.not_mem_nil, or_false] at he
    rcases he with rfl | rfl | rfl | rfl | rfl | rfl | rfl | rfl | rfl | rfl | rfl | rfl | rfl
    · exact ⟨0, t0, rfl, e0⟩
    · exact ⟨1, t1, rfl, e1⟩
    · exact ⟨2, t2, rfl, e2⟩
    · exact ⟨3, t3, rfl, e3⟩
    · exact ⟨4, t4, rfl, e4⟩
    · exact ⟨5, t5, rfl, e5⟩
    · exact ⟨6, t6, rfl, e6⟩
    · exact ⟨7, t7, rfl, e7⟩
    · exact ⟨8, t8, rfl, e8⟩
    · exact ⟨9, t9, rfl, e9⟩
    · exact ⟨10, t10, rfl, e10⟩
    · exact ⟨11, t11, rfl, e11⟩
    · exact ⟨12, t12, rfl, e12⟩
  refine ⟨dC, PySem.W.mg_of X G aD, fun c hc => ?_⟩
  have h13 : c = 0 ∨ c = 1 ∨ c = 2 ∨ c = 3 ∨ c = 4 ∨ c = 5 ∨ c = 6 ∨ c = 7 ∨ c = 8 ∨ c = 9 ∨ c = 10 ∨ c = 11 ∨ c = 12 := by omega
  rcases h13 with rfl | rfl | rfl | rfl | rfl | rfl | rfl | rfl | rfl | rfl | rfl | rfl | rfl
  · exact ⟨a0, f0, ⟨_, _, _, lD, keys, rfl, rfl⟩, ⟨_, _, _, l0, rfl, rfl, (by show 2 ≤ sizeLine; decide), .cons rfl (.cons ⟨_, rfl⟩ .nil)⟩, held_of (ok_call_begin T) (PySem.W.mg_of X G g0) (by decide)⟩
  · exact ⟨a1, f1, ⟨_, _, _, lD, keys, rfl, rfl⟩, ⟨_, _, _, l1, rfl, rfl, (by show 2 ≤ sizeLine; decide), .cons rfl (.cons ⟨_, rfl⟩ .nil)⟩, held_of (ok_call_input T) (PySem.W.mg_of X G g1) (by decide)⟩
  · exact ⟨a2, f2, ⟨_, _, _, lD, keys, rfl, rfl⟩, ⟨_, _, _, l2, rfl, rfl, (by show 2 ≤ sizeLine; decide), .cons rfl (.cons ⟨_, rfl⟩ .nil)⟩, held_of (ok_call_work T) (PySem.W.mg_of X G g2) (by decide)⟩
  · exact ⟨a3, f3, ⟨_, _, _, lD, keys, rfl, rfl⟩, ⟨_, _, _, l3, rfl, rfl, (by show 2 ≤ sizeLine; decide), .cons rfl (.cons ⟨_, rfl⟩ .nil)⟩, held_of (ok_call_arrive T) (PySem.W.mg_of X G g3) (by decide)⟩
  · exact ⟨a4, f4, ⟨_, _, _, lD, keys, rfl, rfl⟩, ⟨_, _, _, l4, rfl, rfl, (by show 2 ≤ sizeLine; decide), .cons rfl (.cons ⟨_, rfl⟩ .nil)⟩, held_of (ok_call_air T) (PySem.W.mg_of X G g4) (by decide)⟩
  · exact ⟨a5, f5, ⟨_, _, _, lD, keys, rfl, rfl⟩, ⟨_, _, _, l5, rfl, rfl, (by show 2 ≤ sizeLine; decide), .cons rfl (.cons ⟨_, rfl⟩ .nil)⟩, held_of (ok_call_crash T) (PySem.W.mg_of X G g5) (by decide)⟩
  · exact ⟨a6, f6, ⟨_, _, _, lD, keys, rfl, rfl⟩, ⟨_, _, _, l6, rfl, rfl, (by show 2 ≤ sizeLine; decide), .cons rfl (.cons ⟨_, rfl⟩ .nil)⟩, held_of (ok_call_start T) (PySem.W.mg_of X G g6) (by decide)⟩
  · exact ⟨a7, f7, ⟨_, _, _, lD, keys, rfl, rfl⟩, ⟨_, _, _, l7, rfl, rfl, (by show 2 ≤ sizeLine; decide), .cons rfl (.cons ⟨_, rfl⟩ .nil)⟩, held_of (ok_call_push T) (PySem.W.mg_of X G g7) (by decide)⟩
  · exact ⟨a8, f8, ⟨_, _, _, lD, keys, rfl, rfl⟩, ⟨_, _, _, l8, rfl, rfl, (by show 2 ≤ sizeLine; decide), .cons rfl (.cons ⟨_, rfl⟩ .nil)⟩, held_of (ok_call_expire T) (PySem.W.mg_of X G g8) (by decide)⟩
  · exact ⟨a9, f9, ⟨_, _, _, lD, keys, rfl, rfl⟩, ⟨_, _, _, l9, rfl, rfl, (by show 2 ≤ sizeLine; decide), .cons rfl (.cons ⟨_, rfl⟩ .nil)⟩, held_of (ok_call_read T) (PySem.W.mg_of X G g9) (by decide)⟩
  · exact ⟨a10, f10, ⟨_, _, _, lD, keys, rfl, rfl⟩, ⟨_, _, _, l10, rfl, rfl, (by show 2 ≤ sizeLine; decide), .cons rfl (.cons ⟨_, rfl⟩ .nil)⟩, held_of (ok_call_raw T) (PySem.W.mg_of X G g10) (by decide)⟩
  · exact ⟨a11, f11, ⟨_, _, _, lD, keys, rfl, rfl⟩, ⟨_, _, _, l11, rfl, rfl, (by show 2 ≤ sizeLine; decide), .cons rfl (.cons ⟨_, rfl⟩ .nil)⟩, held_of (ok_call_worker T) (PySem.W.mg_of X G g11) (by decide)⟩
  · exact ⟨a12, f12, ⟨_, _, _, lD, keys, rfl, rfl⟩, ⟨_, _, _, l12, rfl, rfl, (by show 2 ≤ sizeLine; decide), .cons rfl (.cons ⟨_, rfl⟩ .nil)⟩, held_of (ok_call_keeper T) (PySem.W.mg_of X G g12) (by decide)⟩
theorem fin {fa f3 : Addr} {oc : Value} {od an : Option Addr} {sl : Array (Option Value)} {kV dc pm cd ct : Value} (X : K.In h) (G : h.Ns mainGlobals mg) (hfa : mg "answers" = some (.ref fa)) (a3 : PySem.W.nsIn K mainGlobals "answers" = some (some (.ref f3)))
    (l3 : K.lookup f3 = some ⟨oc, od, .func (PySem.W.fnOf "answers" "answers" (defArgs s_answers) (defBody s_answers) (defScope s_answers) .none kV dc pm an cd ct), sl⟩) (c3 : PySem.W.codeIn K cd "answers" = true) (k3 : PySem.W.keepIn K (.ref f3) = true)
    (T : Txt K mg C.T C.K C.L C.W C.J) (D : ∀ base, Table P w K mg base C 8) :
    ∃ fd : FuncData, (∀ (s : Shared) (us : List Value), us.length = (["calls"] : List Str).length → BindsTo s fd ⟨us, []⟩ ((["calls"] : List Str).zip us)) ∧ ∀ base : Heap, K.In base → base.Ns mainGlobals mg → FnOk P w K mg base CX0 9 fa fd ["calls"] (spAns K) := by
  have e := hfa.symm.trans (PySem.W.mg_of X G a3)
  cases e
  have F3 := fun_mk (st := s_answers) l3 c3 k3
  exact ⟨PySem.W.fnOf "answers" "answers" (defArgs s_answers) (defBody s_answers) (defScope s_answers) .none kV dc pm an cd ct, fun s us hu => match us, hu with | [_], _ => .of_eq rfl, fun base _ _ => ok_answers F3 T (D base)⟩
end
end Sw

open PySem PySem.W PyProof.Rows
set_option maxRecDepth 100000 in
set_option maxHeartbeats 0 in
theorem PySem.Challenge.cw_sumworkers_s01_answers_holds : PySem.Challenge.rw_sumworkers_s01_answers.Holds := by
  w_on; k_headS; (case hw => exact ⟨[.list [.int 4]], by decide +kernel, by decide +kernel⟩)
  k_fillS
  refine L2.walk_specK (r := PySem.Challenge.rw_sumworkers_s01_answers) (k := 9) (CX := L2.CX0) (ps := ["calls"]) (sp := Sw.spAns) (by decide +kernel) rfl rfl ⟨rfl, by decide, by decide⟩ (fun w h Y => PySem.W.kIn_of Y) ?F ?S (fun _ _ _ _ z => z)
  case F =>
    intro w mg fa h Y KX G hmg
    obtain ⟨CT, CK, CL, CW, CJ, T⟩ := Sw.at_K (mg := mg) KX (by
      refine' ⟨_, _, _, _, _, ⟨Sw.klass_mk KX G ?_ ?_ ?_ ?_ ?_ ?_ ?_,
        Sw.no_mk ?_,
        Sw.no_mk ?_,
        Sw.no_mk ?_,
        Sw.no_mk ?_,
        Sw.no_mk ?_,
        Sw.no_mk ?_,
        Sw.mf_mk ?_ ?_ ?_ ?_ ?_ (fun _ _ _ _ _ _ us hl => match us, hl with | [_, _], _ => rfl),
        Sw.mf_mk ?_ ?_ ?_ ?_ ?_ (fun _ _ _ _ _ _ us hl => match us, hl with | [_, _], _ => rfl),
        Sw.klass_mk KX G ?_ ?_ ?_ ?_ ?_ ?_ ?_,
        Sw.no_mk ?_,
        Sw.no_mk ?_,
        Sw.no_mk ?_,
        Sw.no_mk ?_,
        Sw.no_mk ?_,
        Sw.mf_mk ?_ ?_ ?_ ?_ ?_ (fun _ _ _ _ _ _ us hl => match us, hl with | [_], _ => rfl),
        Sw.mf_mk ?_ ?_ ?_ ?_ ?_ (fun _ _ _ _ _ _ us hl => match us, hl with | [_], _ => rfl),
        Sw.mf_mk ?_ ?_ ?_ ?_ ?_ (fun _ _ _ _ _ _ us hl => match us, hl with | [_], _ => rfl),
        Sw.mf_mk ?_ ?_ ?_ ?_ ?_ (fun _ _ _ _ _ _ us hl => match us, hl with | [_], _ => rfl),
        Sw.mf_mk ?_ ?_ ?_ ?_ ?_ (fun _ _ _ _ _ _ us hl => match us, hl with | [_, _, _, _], _ => rfl),
        Sw.mf_mk ?_ ?_ ?_ ?_ ?_ (fun _ _ _ _ _ _ us hl => match us, hl with | [_, _], _ => rfl),
        Sw.mf_mk ?_ ?_ ?_ ?_ ?_ (fun _ _ _ _ _ _ us hl => match us, hl with | [_, _, _, _, _], _ => rfl),
        Sw.mf_mk ?_ ?_ ?_ ?_ ?_ (fun _ _ _ _ _ _ us hl => match us, hl with | [_, _], _ => rfl),
        Sw.mf_mk ?_ ?_ ?_ ?_ ?_ (fun _ _ _ _ _ _ us hl => match us, hl with | [_, _], _ => rfl),
        Sw.mf_mk ?_ ?_ ?_ ?_ ?_ (fun _ _ _ _ _ _ us hl => match us, hl with | [_], _ => rfl),
        Sw.klass_mk KX G ?_ ?_ ?_ ?_ ?_ ?_ ?_,
        Sw.no_mk ?_,
        Sw.no_mk ?_,
        Sw.no_mk ?_,
        Sw.mf_mk ?_ ?_ ?_ ?_ ?_ (fun _ _ _ _ _ _ us hl => match us, hl with | [_], _ => rfl),
        Sw.mf_mk ?_ ?_ ?_ ?_ ?_ (fun _ _ _ _ _ _ us hl => match us, hl with | [_, _, _, _], _ => rfl),
        Sw.mf_mk ?_ ?_ ?_ ?_ ?_ (fun _ _ _ _ _ _ us hl => match us, hl with | [_], _ => rfl),
        Sw.mf_mk ?_ ?_ ?_ ?_ ?_ (fun _ _ _ _ _ _ us hl => match us, hl with | [_, _], _ => rfl),
        Sw.mf_mk ?_ ?_ ?_ ?_ ?_ (fun _ _ _ _ _ _ us hl => match us, hl with | [_], _ => rfl),
        Sw.klass_mk KX G ?_ ?_ ?_ ?_ ?_ ?_ ?_,
        Sw.no_mk ?_,
        Sw.no_mk ?_,
        Sw.no_mk ?_,
        Sw.no_mk ?_,
        Sw.no_mk ?_,
        Sw.no_mk ?_,
        Sw.no_mk ?_,
        Sw.no_mk ?_,
        Sw.no_mk ?_,
        Sw.mf_mk ?_ ?_ ?_ ?_ ?_ (fun _ _ _ _ _ _ us hl => match us, hl with | [_, _], _ => rfl),
        Sw.mf_mk ?_ ?_ ?_ ?_ ?_ (fun _ _ _ _ _ _ us hl => match us, hl with | [_], _ => rfl),
        Sw.mf_mk ?_ ?_ ?_ ?_ ?_ (fun _ _ _ _ _ _ us hl => match us, hl with | [_, _, _, _], _ => rfl),
        Sw.mf_mk ?_ ?_ ?_ ?_ ?_ (fun _ _ _ _ _ _ us hl => match us, hl with | [_, _], _ => rfl),
        Sw.mf_mk ?_ ?_ ?_ ?_ ?_ (fun _ _ _ _ _ _ us hl => match us, hl with | [_, _, _], _ => rfl),
        Sw.mf_mk ?_ ?_ ?_ ?_ ?_ (fun _ _ _ _ _ _ us hl => match us, hl with | [_, _, _], _ => rfl),
        Sw.mf_mk ?_ ?_ ?_ ?_ ?_ (fun _ _ _ _ _ _ us hl => match us, hl with | [_, _], _ => rfl),
        Sw.mf_mk ?_ ?_ ?_ ?_ ?_ (fun _ _ _ _ _ _ us hl => match us, hl with | [_, _, _], _ => rfl),
        Sw.mf_mk ?_ ?_ ?_ ?_ ?_ (fun _ _ _ _ _ _ us hl => match us, hl with | [_, _, _], _ => rfl),
        Sw.mf_mk ?_ ?_ ?_ ?_ ?_ (fun _ _ _ _ _ _ us hl => match us, hl with | [_, _, _], _ => rfl),
        Sw.klass_mk KX G ?_ ?_ ?_ ?_ ?_ ?_ ?_,
        Sw.no_mk ?_,
        Sw.no_mk ?_,
        Sw.no_mk ?_,
        Sw.no_mk ?_,
        Sw.no_mk ?_,
        Sw.no_mk ?_,
        Sw.mf_mk ?_ ?_ ?_ ?_ ?_ (fun _ _ _ _ _ _ us hl => match us, hl with | [_], _ => rfl),
        Sw.mf_mk ?_ ?_ ?_ ?_ ?_ (fun _ _ _ _ _ _ us hl => match us, hl with | [_, _], _ => rfl),
        Sw.mf_mk ?_ ?_ ?_ ?_ ?_ (fun _ _ _ _ _ _ us hl => match us, hl with | [_, _], _ => rfl),
        Sw.mf_mk ?_ ?_ ?_ ?_ ?_ (fun _ _ _ _ _ _ us hl => match us, hl with | [_, _], _ => rfl),
        Sw.gf_mk KX G ?_ ?_ ?_ ?_ (fun _ _ _ _ _ _ us hl => match us, hl with | [_], _ => rfl),
        Sw.gf_mk KX G ?_ ?_ ?_ ?_ (fun _ _ _ _ _ _ us hl => match us, hl with | [_], _ => rfl),
        Sw.gf_mk KX G ?_ ?_ ?_ ?_ (fun _ _ _ _ _ _ us hl => match us, hl with | [_, _], _ => rfl),
        Sw.gf_mk KX G ?_ ?_ ?_ ?_ (fun _ _ _ _ _ _ us hl => match us, hl with | [_, _], _ => rfl),
        Sw.gf_mk KX G ?_ ?_ ?_ ?_ (fun _ _ _ _ _ _ us hl => match us, hl with | [_, _], _ => rfl),
        Sw.gf_mk KX G ?_ ?_ ?_ ?_ (fun _ _ _ _ _ _ us hl => match us, hl with | [_, _, _, _], _ => rfl),
        Sw.gf_mk KX G ?_ ?_ ?_ ?_ (fun _ _ _ _ _ _ us hl => match us, hl with | [_, _], _ => rfl),
        Sw.gf_mk KX G ?_ ?_ ?_ ?_ (fun _ _ _ _ _ _ us hl => match us, hl with | [_, _], _ => rfl),
        Sw.gf_mk KX G ?_ ?_ ?_ ?_ (fun _ _ _ _ _ _ us hl => match us, hl with | [_, _], _ => rfl),
        Sw.gf_mk KX G ?_ ?_ ?_ ?_ (fun _ _ _ _ _ _ us hl => match us, hl with | [_, _], _ => rfl),
        Sw.gf_mk KX G ?_ ?_ ?_ ?_ (fun _ _ _ _ _ _ us hl => match us, hl with | [_, _, _], _ => rfl),
        Sw.gf_mk KX G ?_ ?_ ?_ ?_ (fun _ _ _ _ _ _ us hl => match us, hl with | [_, _], _ => rfl),
        Sw.gf_mk KX G ?_ ?_ ?_ ?_ (fun _ _ _ _ _ _ us hl => match us, hl with | [_, _], _ => rfl),
        Sw.gf_mk KX G ?_ ?_ ?_ ?_ (fun _ _ _ _ _ _ us hl => match us, hl with | [_, _], _ => rfl),
        Sw.gf_mk KX G ?_ ?_ ?_ ?_ (fun _ _ _ _ _ _ us hl => match us, hl with | [_, _], _ => rfl),
        Sw.gf_mk KX G ?_ ?_ ?_ ?_ (fun _ _ _ _ _ _ us hl => match us, hl with | [_, _], _ => rfl),
        Sw.gf_mk KX G ?_ ?_ ?_ ?_ (fun _ _ _ _ _ _ us hl => match us, hl with | [_, _], _ => rfl),
        Sw.gf_mk KX G ?_ ?_ ?_ ?_ (fun _ _ _ _ _ _ us hl => match us, hl with | [_], _ => rfl),
        Sw.gf_mk KX G ?_ ?_ ?_ ?_ (fun _ _ _ _ _ _ us hl => match us, hl with | [_], _ => rfl),
        Sw.num_mk KX G ?_,
        Sw.num_mk KX G ?_,
        Sw.num_mk KX G ?_,
        Sw.num_mk KX G ?_,
        Sw.num_mk KX G ?_,
        Sw.num_mk KX G ?_,
        Sw.num_mk KX G ?_,
        Sw.num_mk KX G ?_,
        Sw.num_mk KX G ?_,
        Sw.num_mk KX G ?_,
        Sw.num_mk KX G ?_,
        Sw.num_mk KX G ?_,
        Sw.num_mk KX G ?_,
        Sw.num_mk KX G ?_,
        Sw.num_mk KX G ?_,
        Sw.num_mk KX G ?_,
        Sw.num_mk KX G ?_,
        Sw.num_mk KX G ?_,
        Sw.num_mk KX G ?_,
        Sw.num_mk KX G ?_,
        Sw.num_mk KX G ?_,
        Sw.num_mk KX G ?_,
        Sw.num_mk KX G ?_,
        Sw.num_mk KX G ?_,
        Sw.num_mk KX G ?_,
        Sw.num_mk KX G ?_,
        Sw.num_mk KX G ?_,
        Sw.non_mk KX G ?_,
        Sw.non_mk KX G ?_,
        Sw.non_mk KX G ?_⟩⟩
      all_goals (try k_is)
      all_goals (try k_is))
    refine' Sw.fin (C := ⟨CT, CK, CL, CW, CJ⟩) KX G hmg ?_ ?_ ?_ ?_ T ?D
    case D =>
      intro base
      refine' ⟨Sw.tab_mk (C := ⟨CT, CK, CL, CW, CJ⟩) KX G T ?_ ?_ ?_ ?_ ?_ ?_ ?_ ?_ ?_ ?_ ?_ ?_ ?_ ?_ ?_ ?_ ?_ ?_ ?_ ?_ ?_ ?_ ?_ ?_ ?_ ?_ ?_ ?_ ?_ ?_ ?_ ?_ ?_ ?_ ?_ ?_ ?_ ?_ ?_ ?_ ?_⟩
      all_goals (try k_is)
      all_goals (try k_is)
      all_goals (try rfl)
    all_goals (try k_is)
  case S =>
    intro K H xs a hO hwi hask hx
    cases hx with
    | cons h1 h2 =>
      cases h2
      cases h1 with
      | lst hs ha =>
        have e := L2.ints_dw a.1 _ ha
        subst e
        have q : ((Codec.inLen 0 600 a.1 && a.1.all (Codec.inInt 0 4294967295)) && true) = true := hwi
        rw [Bool.and_eq_true, Bool.and_eq_true] at q
        refine ⟨_, a.1, rfl, hs, fun x hx => ?_, hask, fun H' p hp => .lst (L2.SqL.of hp) (L2.dw_ints _)⟩
        exact Codec.inInt_iff.mp (List.all_eq_true.mp q.1.2 x hx)
#print axioms PySem.Challenge.cw_sumworkers_s01_answers_holds


