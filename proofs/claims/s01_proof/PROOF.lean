import PyProof.Rows.All
import Wide.All
import OpenK.AllK
import Wide.FinOn
import Open.SpecLaws
import KE.OsGo
import HandS.ForSpec
import HandS.ForMost
import HandS.More
import HandS.Strs
import HandS.SetFor
import HandS.SortInts
import HandS.Steps
import KE.DataFind
import PySd17
import PyFlatLaws
import PySem.Challenge.RW_stallbook_s01_answers
set_option Elab.async false
set_option maxRecDepth 100000
set_option maxHeartbeats 6400000
namespace SB
open PySem PySem.Spec PyProof.Rows L2
/-! ### the text by places -/
def top (i : Nat) : Stmt := PySem.Challenge.pw_stallbook_s01_answers.main.body.getD i (.Pass ⟨0, 0, 0, 0⟩)
abbrev s_Order_init : Stmt := inClass (top 27) 0
abbrev s_has_price : Stmt := top 28
abbrev s_is_stop : Stmt := top 29
abbrev s_is_in_range : Stmt := top 30
abbrev s_is_as_told : Stmt := top 31
abbrev s_accepts : Stmt := top 32
abbrev s_is_triggered : Stmt := top 33
abbrev s_is_better : Stmt := top 34
abbrev s_place_in : Stmt := top 35
abbrev s_auction_price : Stmt := top 36
abbrev s_Book_init : Stmt := inClass (top 37) 0
abbrev s_Book_take_order : Stmt := inClass (top 37) 1
abbrev s_Book_cancel : Stmt := inClass (top 37) 2
abbrev s_Book_change : Stmt := inClass (top 37) 3
abbrev s_Book_auction : Stmt := inClass (top 37) 4
abbrev s_Book_look : Stmt := inClass (top 37) 5
abbrev s_Book_tell : Stmt := inClass (top 37) 6
abbrev s_Book_answer : Stmt := inClass (top 37) 7
abbrev s_Book_end : Stmt := inClass (top 37) 8
abbrev s_Book_rest : Stmt := inClass (top 37) 9
abbrev s_Book_take_out : Stmt := inClass (top 37) 10
abbrev s_Book_take_out_if_empty : Stmt := inClass (top 37) 11
abbrev s_Book_wait : Stmt := inClass (top 37) 12
abbrev s_Book_arrive : Stmt := inClass (top 37) 13
abbrev s_Book_come : Stmt := inClass (top 37) 14
abbrev s_Book_other_line : Stmt := inClass (top 37) 15
abbrev s_Book_can_trade : Stmt := inClass (top 37) 16
abbrev s_Book_offered_by_others : Stmt := inClass (top 37) 17
abbrev s_Book_trade : Stmt := inClass (top 37) 18
abbrev s_Book_exchange : Stmt := inClass (top 37) 19
abbrev s_Book_settle : Stmt := inClass (top 37) 20
abbrev s_Book_trigger_stops : Stmt := inClass (top 37) 21
abbrev s_Book_take_triggered : Stmt := inClass (top 37) 22
abbrev s_Book_price_of_auction : Stmt := inClass (top 37) 23
abbrev s_Book_trade_auction : Stmt := inClass (top 37) 24
abbrev s_Book_both_accept : Stmt := inClass (top 37) 25
abbrev s_answer_call : Stmt := top 38
abbrev s_answers : Stmt := top 39
theorem sc_Order_init : FnScope ["self", "numbers"] ["self", "numbers"] (defScope s_Order_init) := ⟨rfl, rfl, rfl, by decide +kernel, rfl, by decide +kernel, by decide +kernel⟩
theorem sc_has_price : FnScope ["order"] ["order"] (defScope s_has_price) := ⟨rfl, rfl, rfl, by decide +kernel, rfl, by decide +kernel, by decide +kernel⟩
theorem sc_is_stop : FnScope ["order"] ["order"] (defScope s_is_stop) := ⟨rfl, rfl, rfl, by decide +kernel, rfl, by decide +kernel, by decide +kernel⟩
theorem sc_is_in_range : FnScope ["number"] ["number"] (defScope s_is_in_range) := ⟨rfl, rfl, rfl, by decide +kernel, rfl, by decide +kernel, by decide +kernel⟩
theorem sc_is_as_told : FnScope ["order"] ["order"] (defScope s_is_as_told) := ⟨rfl, rfl, rfl, by decide +kernel, rfl, by decide +kernel, by decide +kernel⟩
theorem sc_accepts : FnScope ["order", "price"] ["order", "price"] (defScope s_accepts) := ⟨rfl, rfl, rfl, by decide +kernel, rfl, by decide +kernel, by decide +kernel⟩
theorem sc_is_triggered : FnScope ["stop", "latest"] ["stop", "latest"] (defScope s_is_triggered) := ⟨rfl, rfl, rfl, by decide +kernel, rfl, by decide +kernel, by decide +kernel⟩
theorem sc_is_better : FnScope ["order", "other"] ["order", "other"] (defScope s_is_better) := ⟨rfl, rfl, rfl, by decide +kernel, rfl, by decide +kernel, by decide +kernel⟩
theorem sc_place_in : FnScope ["line", "order", "low", "high", "middle"] ["line", "order"] (defScope s_place_in) := ⟨rfl, rfl, rfl, by decide +kernel, rfl, by decide +kernel, by decide +kernel⟩
theorem sc_auction_price : FnScope ["buyers", "sellers", "latest", "wanted", "offered", "left", "joined", "best", "price", "distance", "rank", "order"] ["buyers", "sellers", "latest"] (defScope s_auction_price) := ⟨rfl, rfl, rfl, by decide +kernel, rfl, by decide +kernel, by decide +kernel⟩
theorem sc_Book_init : FnScope ["self"] ["self"] (defScope s_Book_init) := ⟨rfl, rfl, rfl, by decide +kernel, rfl, by decide +kernel, by decide +kernel⟩
theorem sc_Book_take_order : FnScope ["self", "numbers", "order"] ["self", "numbers"] (defScope s_Book_take_order) := ⟨rfl, rfl, rfl, by decide +kernel, rfl, by decide +kernel, by decide +kernel⟩
theorem sc_Book_cancel : FnScope ["self", "number", "order"] ["self", "number"] (defScope s_Book_cancel) := ⟨rfl, rfl, rfl, by decide +kernel, rfl, by decide +kernel, by decide +kernel⟩
theorem sc_Book_change : FnScope ["self", "number", "price", "amount", "order"] ["self", "number", "price", "amount"] (defScope s_Book_change) := ⟨rfl, rfl, rfl, by decide +kernel, rfl, by decide +kernel, by decide +kernel⟩
theorem sc_Book_auction : FnScope ["self", "on", "begins"] ["self", "on"] (defScope s_Book_auction) := ⟨rfl, rfl, rfl, by decide +kernel, rfl, by decide +kernel, by decide +kernel⟩
theorem sc_Book_look : FnScope ["self", "told", "line", "price", "order"] ["self"] (defScope s_Book_look) := ⟨rfl, rfl, rfl, by decide +kernel, rfl, by decide +kernel, by decide +kernel⟩
theorem sc_Book_tell : FnScope ["self", "event", "number", "other", "price", "amount", "left"] ["self", "event", "number", "other", "price", "amount", "left"] (defScope s_Book_tell) := ⟨rfl, rfl, rfl, by decide +kernel, rfl, by decide +kernel, by decide +kernel⟩
theorem sc_Book_answer : FnScope ["self", "told"] ["self"] (defScope s_Book_answer) := ⟨rfl, rfl, rfl, by decide +kernel, rfl, by decide +kernel, by decide +kernel⟩
theorem sc_Book_end : FnScope ["self", "order", "why"] ["self", "order", "why"] (defScope s_Book_end) := ⟨rfl, rfl, rfl, by decide +kernel, rfl, by decide +kernel, by decide +kernel⟩
theorem sc_Book_rest : FnScope ["self", "order", "line"] ["self", "order"] (defScope s_Book_rest) := ⟨rfl, rfl, rfl, by decide +kernel, rfl, by decide +kernel, by decide +kernel⟩
theorem sc_Book_take_out : FnScope ["self", "order"] ["self", "order"] (defScope s_Book_take_out) := ⟨rfl, rfl, rfl, by decide +kernel, rfl, by decide +kernel, by decide +kernel⟩
theorem sc_Book_take_out_if_empty : FnScope ["self", "order"] ["self", "order"] (defScope s_Book_take_out_if_empty) := ⟨rfl, rfl, rfl, by decide +kernel, rfl, by decide +kernel, by decide +kernel⟩
theorem sc_Book_wait : FnScope ["self", "stop"] ["self", "stop"] (defScope s_Book_wait) := ⟨rfl, rfl, rfl, by decide +kernel, rfl, by decide +kernel, by decide +kernel⟩
theorem sc_Book_arrive : FnScope ["self", "order"] ["self", "order"] (defScope s_Book_arrive) := ⟨rfl, rfl, rfl, by decide +kernel, rfl, by decide +kernel, by decide +kernel⟩
theorem sc_Book_come : FnScope ["self", "order"] ["self", "order"] (defScope s_Book_come) := ⟨rfl, rfl, rfl, by decide +kernel, rfl, by decide +kernel, by decide +kernel⟩
theorem sc_Book_other_line : FnScope ["self", "order"] ["self", "order"] (defScope s_Book_other_line) := ⟨rfl, rfl, rfl, by decide +kernel, rfl, by decide +kernel, by decide +kernel⟩
theorem sc_Book_can_trade : FnScope ["self", "order", "line"] ["self", "order"] (defScope s_Book_can_trade) := ⟨rfl, rfl, rfl, by decide +kernel, rfl, by decide +kernel, by decide +kernel⟩
theorem sc_Book_offered_by_others : FnScope ["self", "order", "others", "other"] ["self", "order"] (defScope s_Book_offered_by_others) := ⟨rfl, rfl, rfl, by decide +kernel, rfl, by decide +kernel, by decide +kernel⟩
theorem sc_Book_trade : FnScope ["self", "order", "best"] ["self", "order"] (defScope s_Book_trade) := ⟨rfl, rfl, rfl, by decide +kernel, rfl, by decide +kernel, by decide +kernel⟩
theorem sc_Book_exchange : FnScope ["self", "order", "other", "price", "amount"] ["self", "order", "other", "price"] (defScope s_Book_exchange) := ⟨rfl, rfl, rfl, by decide +kernel, rfl, by decide +kernel, by decide +kernel⟩
theorem sc_Book_settle : FnScope ["self", "order"] ["self", "order"] (defScope s_Book_settle) := ⟨rfl, rfl, rfl, by decide +kernel, rfl, by decide +kernel, by decide +kernel⟩
theorem sc_Book_trigger_stops : FnScope ["self", "found"] ["self"] (defScope s_Book_trigger_stops) := ⟨rfl, rfl, rfl, by decide +kernel, rfl, by decide +kernel, by decide +kernel⟩
theorem sc_Book_take_triggered : FnScope ["self", "stop", "found"] ["self"] (defScope s_Book_take_triggered) := ⟨rfl, rfl, rfl, by decide +kernel, rfl, by decide +kernel, by decide +kernel⟩
theorem sc_Book_price_of_auction : FnScope ["self"] ["self"] (defScope s_Book_price_of_auction) := ⟨rfl, rfl, rfl, by decide +kernel, rfl, by decide +kernel, by decide +kernel⟩
theorem sc_Book_trade_auction : FnScope ["self", "price", "buyer", "seller"] ["self"] (defScope s_Book_trade_auction) := ⟨rfl, rfl, rfl, by decide +kernel, rfl, by decide +kernel, by decide +kernel⟩
theorem sc_Book_both_accept : FnScope ["self", "price", "line"] ["self", "price"] (defScope s_Book_both_accept) := ⟨rfl, rfl, rfl, by decide +kernel, rfl, by decide +kernel, by decide +kernel⟩
theorem sc_answer_call : FnScope ["book", "call", "numbers"] ["book", "call", "numbers"] (defScope s_answer_call) := ⟨rfl, rfl, rfl, by decide +kernel, rfl, by decide +kernel, by decide +kernel⟩
theorem sc_answers : FnScope ["calls", "book", "told", "place", "call", "behind", "answer"] ["calls"] (defScope s_answers) := ⟨rfl, rfl, rfl, by decide +kernel, rfl, by decide +kernel, by decide +kernel⟩
/-! ### what the top has written -/
/-- what an order's class says of == : object's own -/
structure PlainEq (K : PySem.W.Frag) (C : Addr) : Prop where
  mro : PySem.W.mroIn K C (.type "object") = some true
  eq : PySem.W.findIn K (.ref C) "__eq__" = some (some (.builtin "object.__eq__"))
structure Txt (K : PySem.W.Frag) (mg : Str → Option Value) (CO CB : Addr) : Prop where
  clO : Cls K CO
  peO : PlainEq K CO
  clB : Cls K CB
  gO : mg "Order" = some (.ref CO)
  gB : mg "Book" = some (.ref CB)
  nO_number : NoAttr K CO "number"
  nO_who : NoAttr K CO "who"
  nO_side : NoAttr K CO "side"
  nO_kind : NoAttr K CO "kind"
  nO_price : NoAttr K CO "price"
  nO_amount : NoAttr K CO "amount"
  nO_trigger : NoAttr K CO "trigger"
  nB_lines : NoAttr K CB "lines"
  nB_waiting : NoAttr K CB "waiting"
  nB_known : NoAttr K CB "known"
  nB_latest : NoAttr K CB "latest"
  nB_in_auction : NoAttr K CB "in_auction"
  nB_events : NoAttr K CB "events"
  c_ORDER : ∃ t, mg "ORDER" = some (.int 1 t)
  c_CANCEL : ∃ t, mg "CANCEL" = some (.int 2 t)
  c_CHANGE : ∃ t, mg "CHANGE" = some (.int 3 t)
  c_AUCTION : ∃ t, mg "AUCTION" = some (.int 4 t)
  c_BUYS : ∃ t, mg "BUYS" = some (.int 0 t)
  c_SELLS : ∃ t, mg "SELLS" = some (.int 1 t)
  c_LIMIT : ∃ t, mg "LIMIT" = some (.int 0 t)
  c_MARKET : ∃ t, mg "MARKET" = some (.int 1 t)
  c_ALL_AT_ONCE : ∃ t, mg "ALL_AT_ONCE" = some (.int 3 t)
  c_ONLY_TO_REST : ∃ t, mg "ONLY_TO_REST" = some (.int 4 t)
  c_STOP : ∃ t, mg "STOP" = some (.int 5 t)
  c_STOP_WITH_LIMIT : ∃ t, mg "STOP_WITH_LIMIT" = some (.int 6 t)
  c_TRADED : ∃ t, mg "TRADED" = some (.int 1 t)
  c_RESTS : ∃ t, mg "RESTS" = some (.int 2 t)
  c_ENDED : ∃ t, mg "ENDED" = some (.int 3 t)
  c_TRIGGERED : ∃ t, mg "TRIGGERED" = some (.int 4 t)
  c_NUMBERS_OF_AN_EVENT : ∃ t, mg "NUMBERS_OF_AN_EVENT" = some (.int 6 t)
  c_CANCELLED : ∃ t, mg "CANCELLED" = some (.int 1 t)
  c_NOT_TRADED : ∃ t, mg "NOT_TRADED" = some (.int 2 t)
  c_TOO_LITTLE : ∃ t, mg "TOO_LITTLE" = some (.int 3 t)
  c_WOULD_TRADE : ∃ t, mg "WOULD_TRADE" = some (.int 4 t)
  c_SAME_PERSON : ∃ t, mg "SAME_PERSON" = some (.int 5 t)
  c_LARGEST_PERSON : ∃ t, mg "LARGEST_PERSON" = some (.int 255 t)
  c_LARGEST : ∃ t, mg "LARGEST" = some (.int 1000000 t)
  c_MOST_ORDERS : ∃ t, mg "MOST_ORDERS" = some (.int 1024 t)
  b_len : mg "len" = none
  b_sum : mg "sum" = none
  b_sorted : mg "sorted" = none
  b_set : mg "set" = none
  b_abs : mg "abs" = none
  b_min : mg "min" = none
  hmn : ∃ a, mg "HOW_MANY_NUMBERS" = some (.ref a) ∧ ∀ H, SqT K H a [.int 0, .int 7, .int 1, .int 3, .int 1, .int 0]
/-- a def as callers use it -/
structure Gd (P : Program) (w : World) (K : PySem.W.Frag) (mg : Str → Option Value) (base : Heap) (k : Nat) (x : Str) (f : Addr) (fd : FuncData) (ps : List Str) (sp : Sp) : Prop where
  ok : FnOk P w K mg base CX0 k f fd ps sp
  mg : mg x = some (.ref f)
  kp : PySem.W.keepIn K (.ref f) = true
  b : Binds K fd ps []
/-- a method -/
structure Gm (P : Program) (w : World) (K : PySem.W.Frag) (mg : Str → Option Value) (base : Heap) (k : Nat) (C : Addr) (x : Str) (f : Addr) (fd : FuncData) (ps : List Str) (sp : Sp) : Prop where
  ok : FnOk P w K mg base CX0 k f fd ps sp
  m : Meth K C x f
  b : Binds K fd ps []
/-- a class's making -/
structure Gk (P : Program) (w : World) (K : PySem.W.Frag) (mg : Str → Option Value) (base : Heap) (k : Nat) (C : Addr) (f : Addr) (fd : FuncData) (ps : List Str) (sp : Sp) : Prop where
  ok : FnOk P w K mg base CX0 k f fd ps sp
  mm : Mk K C f
  b : Binds K fd ps []
section
variable {X : Cx}
theorem pg_int {x : Str} {pos : Pos} {i : Int} (hg : Gl X x) (h : ∃ t, X.mg x = some (.int i t)) (hd : (x == ("__debug__" : Str)) = false := by decide) : PE X (.Name x pos) (tC (.int i)) := by
  obtain ⟨t, h⟩ := h
  exact pe_glob (v := .int i) hg h ⟨t, rfl⟩ hd
/-- a name of the top that stands for an object -/
def tAt (P : Addr → Prop) : TE := fun _ H Q => ∀ a, P a → Q (.ref a) H
theorem pg_hmn {x : Str} {pos : Pos} {P : Addr → Prop} (hg : Gl X x) (h : ∃ a, X.mg x = some (.ref a) ∧ P a) (hd : (x == ("__debug__" : Str)) = false := by decide) : PE X (.Name x pos) (tAt P) := by
  obtain ⟨a, h, p⟩ := h
  have g : PE X (.Name x pos) (tC (.ref a)) := pe_glob (v := .ref a) hg h rfl hd
  exact ⟨fun pins s σ H Q I q => g.run pins s σ H Q I (q a p)⟩
end
end SB
namespace SB
open PySem PySem.Spec PyProof.Rows L2 PySem.SeqAt
section
variable {A : Around} {sh : Shared} {K : PySem.W.Frag} {a b C : Addr} {oa ob : Obj} {da db : Option Obj}
theorem inst_cls (J : PySem.W.InstAt sh.heap a oa C da) : sh.heap.get? a = some oa ∧ oa.cls = .ref C := by
  first
    | exact ⟨J.at, J.cls⟩
    | exact ⟨J.1, J.2.1⟩
    | (obtain ⟨h1, h2, _⟩ := J; exact ⟨h1, h2⟩)
/-- a == b of two other orders: each says that it cannot tell -/
theorem try_other (prog : Program) (w : World) (kin : K.In sh.heap) (pe : PlainEq K C) (J : PySem.W.InstAt sh.heap a oa C da) {o2 : Obj} (hb : sh.heap.get? b = some o2) (ne : a ≠ b) {E : Value → Shared → Prop} :
    wpAny (model prog w) A (tryCompare (.ref a) "__eq__" (.ref b)) (fun r s1 => r = none ∧ s1 = sh) E sh := by
  obtain ⟨ha, hc⟩ := inst_cls J
  have nt : oa.cls ≠ .type "tuple" := by
    rw [hc]
    exact fun z => Value.noConfusion z
  unfold tryCompare
  refine wpAny_bind (HN.ifBound_objEq kin J pe.eq (wpAny_call (codeAny_call_builtin F.cmp_object.eq.plain F.cmpEntry_eq
    (PySem.W.check_slot F.cmpKind_eq F.cmpSplit_eq (J.type.andThen (PySem.W.looks_mroIn kin pe.mro)) (F.cmpArgs_eq _ _) (objEq_entry_other ne ha hb nt ?_)))))
  exact wpAny_pure ⟨rfl, rfl⟩
theorem rc_other (room : A.units < cLine) (kin : K.In sh.heap) (pe : PlainEq K C) (J1 : PySem.W.InstAt sh.heap a oa C da) (J2 : PySem.W.InstAt sh.heap b ob C db) (ne : a ≠ b) : RcAt A sh (.ref a) (.ref b) false := fun prog w E Q q => by
  obtain ⟨ha, hca⟩ := inst_cls J1
  obtain ⟨hb, hcb⟩ := inst_cls J2
  have nt : oa.cls ≠ .type "tuple" := by
    rw [hca]
    exact fun z => Value.noConfusion z
  simp only [richCompare, cmpInfo_Eq, oneThing_ref]
  refine wpAny_holding (wpAny_bind (wpAny_cRoomFor room ?_))
  refine wpAny_bind (J1.type.here ?_)
  refine wpAny_bind (J2.type.here ?_)
  rw [if_neg (by simp)]
  refine wpAny_bind (wpAny_pure ?_)
  simp only [Bool.false_eq_true, if_false, Bool.not_false, if_true]
  refine wpAny_bind (m := tryCompare (.ref a) _ (.ref b)) (wpAny_mono (try_other prog w kin pe J1 hb ne) (fun r s1 z => ?_) fun _ _ e => e)
  obtain ⟨rfl, rfl⟩ := z
  refine wpAny_bind (m := tryCompare (.ref b) _ (.ref a)) (wpAny_mono (try_other prog w kin pe J2 ha (Ne.symm ne)) (fun r s1 z => ?_) fun _ _ e => e)
  obtain ⟨rfl, rfl⟩ := z
  exact wpAny_bind (wpAny_rule (wpAny_bind (wpAny_isSame_ref_other ne ha hb nt (wpAny_pure q))))
theorem eq_other (room : A.units < cLine) (kin : K.In sh.heap) (pe : PlainEq K C) (J1 : PySem.W.InstAt sh.heap a oa C da) (J2 : PySem.W.InstAt sh.heap b ob C db) (ne : a ≠ b) : EqAt A sh (.ref a) (.ref b) false :=
  EqAt.of_refs ne (rc_other room kin pe J1 J2 ne)
end
end SB
namespace SB
open PySem PySem.Spec PyProof.Rows L2 PySem.SeqAt
/-! ### set(xs), xs a list of allI of any number below the model's bound: as the library's rule for a tuple, over a list -/
abbrev emptyBox (w : World) : Obj := { cls := .type "set", dict := none, data := .set #[] 0 (.fresh 0 0 (!w.params.followText "set-order")) }
section
variable {P : Program} {w : World} {A : Around} {E : Value → Shared → Prop} {sh : Shared}
def SetOut (w : World) (sh : Shared) (zs : List Int) (r : Value) (t : Shared) : Prop :=
  r = .none ∧ ∃ hp tk c, t = { sh with heap := hp, toks := tk } ∧ SetR w hp sh.heap.objs.size (fun j => decide (j ∈ zs)) c ∧ c ≤ zs.length ∧ ∀ b o, sh.heap.get? b = some o → hp.get? b = some o
theorem set_of_list {l : Addr} {its : Array Value} (zs : List Int) {Q : Value → Shared → Prop} (calm : A.handled = none) (isl : sh.heap.IsList l its) (allI : IntsAre its.toList zs) (few : zs.length + 1 < scanBound)
    (k : ∀ (hp : Heap) (tk c : Nat), SetR w hp sh.heap.objs.size (fun j => decide (j ∈ zs)) c → c ≤ zs.length → (∀ b o, sh.heap.get? b = some o → hp.get? b = some o) → Q (.ref sh.heap.objs.size) { sh with heap := hp, toks := tk }) :
    wpAny (model P w) A (call (.type "set") [.ref l]) Q E sh := by
  have len_eq : its.size = zs.length := by
    rw [← Array.length_toList]
    exact IntsAre.length allI
  obtain ⟨c0, tl0, f1⟩ := F.called_set.mro
  have f2 := F.called_set.made
  have f3 := F.called_set.sub
  have f4 := F.called_set.notType
  have f5 := F.called_set.canCreate
  have f6 := F.typeCall_set_1 (.ref l)
  have f7 := F.called_set.init.lookup
  have f8 := F.called_set.init.bind (.ref sh.heap.objs.size)
  refine wpAny_call (codeAny_of_tree ?_)
  show wpAny _ _ (callAny (Value.type "set") _) _ _ sh
  refine wpAny_pure (And.intro (Code.quiet_builtin _ (by decide +kernel)) (codeAny_builtin PySem.F.entry_type_call ?_))
  rw [Around.under_plain (weight_type_call_type "set" [Value.ref l] []) rfl]
  repeat (any_goals (first | assumption | wp_step))
  refine codeAny_mono (code_set_led1 (Value.ref l) (E := E) (Q₁ := fun r t => r = .ref sh.heap.objs.size ∧ t = { sh with heap := sh.heap.push (emptyBox w) }) (And.intro rfl rfl)) fun r t made => ?_
  cases r with
  | error e => exact made
  | ok fl => cases fl with
    | ret v =>
      obtain ⟨rfl, rfl⟩ := made
      have atS : (sh.heap.push (emptyBox w)).get? sh.heap.objs.size = some (emptyBox w) := Heap.get?_push_size _ rfl
      have tyS : Shared.TypeIs { sh with heap := sh.heap.push (emptyBox w) } (.ref sh.heap.objs.size) "set" := ⟨_, atS, rfl⟩
      repeat (any_goals (first | assumption | wp_step))
      refine codeAny_mono (codeAny_call_builtin (R := wants (SetOut w sh zs) E) F.called_set.init.plain F.entry_set_init (check_set_init_1 tyS ?_)) fun r2 t2 fin => ?_
      · obtain ⟨⟨kl, dl, bl, sl⟩, atL, q1, nl, q2⟩ := isl
        simp only at q1 q2
        subst q1
        subst q2
        have atL2 : (sh.heap.push (emptyBox w)).get? l = some { cls := .type "list", dict := dl, data := .seq its nl, slots := sl } := Heap.get?_push_of_some _ atL
        have g1 := PySem.F.sub_list_set
        have g2 := PySem.F.sub_list_frozenset
        have g3 : (Value.type "list" == Value.type "dict") = false := by decide
        have isl2 : (sh.heap.push (emptyBox w)).IsList l its := ⟨_, atL2, rfl, nl, rfl⟩
        unfold Builtin.«set.__init__» noKeywords Builtin.Frozenset.updateFrom
        generalize eIter : pyIter = theIter
        wp_walk
        subst eIter
        refine wpAny_pyIter_list isl2 (wpAny_bind (wpAny_runValue ?_))
        have ltL : l < sh.heap.objs.size := Heap.lt_size atL
        have calm3 : A.in1.in1.in1.handled = none := by simp [calm]
        have szI : (sh.heap.push (emptyBox w)).objs.size = sh.heap.objs.size + 1 := by rw [Heap.size_push]
        have neI : l ≠ (sh.heap.push (emptyBox w)).objs.size := by
          rw [szI]
          exact Nat.ne_of_lt (Nat.lt_succ_of_lt ltL)
        have apart : sh.heap.objs.size ∉ [(sh.heap.push (emptyBox w)).objs.size, l] := fun m => by
          rcases List.mem_cons.mp m with z | z
          · exact Nat.ne_of_lt (Nat.lt_succ_self _) (z.trans szI)
          · exact Nat.ne_of_gt ltL (List.mem_singleton.mp z)
        have item : ∀ (i : Nat) (v : Value), its[i]? = some v → ∃ z t, zs[i]? = some z ∧ v = .int z t := fun i v hv => by
          have hi : i < zs.length := by
            rw [← len_eq]
            exact (Array.getElem?_eq_some_iff.mp hv).1
          obtain ⟨t, e⟩ := PyProof.Rows.IntsAre.int_at allI i v (by rw [Array.getElem?_toList]; exact hv)
          refine ⟨zs[i], t, List.getElem?_eq_getElem hi, ?_⟩
          rw [e, List.getD_eq_getElem?_getD, List.getElem?_eq_getElem hi]
          rfl
        refine set_update_ints ((Walks.list calm3 _ l neI its).toS) sh.heap.objs.size apart zs len_eq few item (its.size - 0) 0 _ (by omega) (Nat.zero_le _)
          (And.intro ⟨_, Heap.get?_push_size _ rfl, rfl, rfl⟩ (isl2.push _)) ⟨0, Nat.le_refl 0, ?_⟩ fun t' c mv le R => ?_
        · exact setR_new_at (Heap.get?_push_of_some _ atS)
        · obtain ⟨hp', gg, dd, tk', oo⟩ := t'
          have e1 : gg = sh.gens := mv.gens
          have e2 : dd = sh.drawn := mv.drawn
          have e3 : oo = sh.os := mv.os
          subst e1 e2 e3
          show wpAny _ _ _ _ _ _
          refine wpAny_pure ?_
          show wpAny _ _ (ret Value.none) _ _ _
          refine wpAny_pure (And.intro rfl ⟨hp', tk', c, rfl, R, by omega, fun b o e => ?_⟩)
          have lb : b < sh.heap.objs.size := Heap.lt_size e
          refine mv.heap b o (fun m => ?_) (Heap.get?_push_of_some _ (Heap.get?_push_of_some _ e))
          rcases List.mem_cons.mp m with z | z
          · exact Nat.ne_of_lt lb z
          · exact Nat.ne_of_lt (Nat.lt_succ_of_lt lb) ((List.mem_singleton.mp z).trans szI)
      · cases r2 with
        | error e => exact fin
        | ok fl2 => cases fl2 with
          | ret r =>
            obtain ⟨rfl, hp, tk, c, rfl, R, le, kp⟩ := fin
            repeat (any_goals (first | assumption | wp_step))
            exact k _ _ _ R le kp
          | _ => exact fin.elim
    | _ => exact made.elim
end
section
variable {P : Program} {w : World} {A : Around} {E : Value → Shared → Prop} {sh : Shared} {a : Addr}
/-! ### sorted(s), s a set of allI of any size -/
theorem sorted_set_any {S : Int → Bool} {n : Nat} {Q : Value → Shared → Prop} (R : SetR w sh.heap a S n) (calm : A.handled = none)
    (k : ∀ (t : Shared) (p : Addr) (out : Array Value) (c : Nat) (zs : List Int), (∀ b o, sh.heap.get? b = some o → t.heap.get? b = some o) → t.gens = sh.gens → t.os = sh.os → sh.heap.objs.size ≤ p →
      t.heap.get? p = some (seqObj "list" out c) → IntsAre out.toList zs → zs.Pairwise (· < ·) → (∀ j, j ∈ zs ↔ S j = true) → zs.length = n → Q (.ref p) t) :
    wpAny (model P w) A (call (.builtin "sorted") [.ref a]) Q E sh := by
  obtain ⟨o, es, ep, tb, at0, ex, dat, good, nodup, mem, bnd, fits, cnt, ris, led⟩ := R
  refine Calls.call_function_entry kind_sorted plain_sorted entry_sorted (args_sorted1 (.ref a)) ?_
  unfold Builtin.«sorted»
  refine wpAny_bind (m := checkCount "sorted" 1 1 _) (wpAny_pure (wpAny_bind ?_))
  refine collect_set (A := A.in1) calm ⟨o, at0, ex.1, dat⟩ fits bnd ris led fun s1 vs kp1 big g1 o1 perm => ?_
  have lvs : vs.length = n := by
    rw [perm.length_eq, List.length_map, Array.length_toList]
    exact cnt
  have hz : vs.length ≤ sizeLine := by
    have : es.size < 4096 := bnd
    rw [lvs, ← cnt, sizeLine_eq]
    omega
  have vint : IntsAre vs (vs.map Builtin.Re.reRawOf) := L2.ints_of vs fun v hv => by
    obtain ⟨e, he, q⟩ := List.mem_map.mp (perm.mem_iff.mp hv)
    obtain ⟨z, tk, q1, _⟩ := good e he
    exact ⟨z, tk, q ▸ q1⟩
  have permK : (vs.map Builtin.Re.reRawOf).Perm (es.toList.map keyOf) := by
    have q := perm.map Builtin.Re.reRawOf
    rwa [List.map_map] at q
  refine wpAny_bind (wpAny_newList ?_ hz)
  have atL : (s1.heap.push (seqObj "list" vs.toArray 0)).get? s1.heap.objs.size = some (seqObj "list" vs.toArray 0) := Heap.get?_push_size _ rfl
  refine wpAny_bind (wpAny_holding (wpAny_call_entry slot_list_sort ⟨_, atL, rfl⟩ entry_list_sort (SrtO.list_sort_ord SrtO.swo_int atL hz (fun h2 => SrtO.ints_sortable vint h2) fun out h1 h2 => ⟨_, rfl, ?_⟩) (args_list_sort _)))
  obtain ⟨k1, k2, k3⟩ := SrtO.ints_out vint h1 h2
  obtain ⟨c, hc⟩ := sortedHeap_at (vs := vs) (out := out.toArray) atL
  have pn := k2.trans permK
  refine wpAny_pure ⟨_, rfl, k _ s1.heap.objs.size out.toArray c (out.map SrtO.iv) (fun b u e => ?_) g1 o1 big hc (by simpa using k1) (L2.lt_of_le_nodup _ k3 (pn.nodup_iff.mpr nodup)) (fun j => by rw [pn.mem_iff, ← mem j]) ?_⟩
  · have lt1 := Heap.lt_size (kp1 b u e)
    show (sortedHeap (s1.heap.push (seqObj "list" vs.toArray 0)) s1.heap.objs.size vs out.toArray).get? b = some u
    rw [sortedHeap_old (Nat.ne_of_lt lt1) (by rw [size_push']; exact Nat.lt_succ_of_lt lt1)]
    exact Heap.get?_push_of_some _ (kp1 b u e)
  · rw [pn.length_eq, List.length_map, Array.length_toList]
    exact cnt
end
section
variable {X : Cx}
/-- set(xs) of a list of allI -/
def rSetL (K : PySem.W.Frag) (w : World) : List V → Hp → VK → Prop := fun xs H Q => ∃ (l : Addr) (zs : List Int), xs = [V.ref l] ∧ SqL K H l (zs.map V.int) ∧ zs.length ≤ 4000 ∧
  ∀ p c, H p = none → Q (.ref p) (upd H p (SetO w p (fun j => decide (j ∈ zs)) c))
theorem cr_setL (hc : X.calm = true) : CallR X (.type "set") (rSetL X.K X.w) := by
  intro pins s σ H xs us Q I r h
  obtain ⟨l, zs, rfl, hs, few, q⟩ := h
  obtain ⟨its, rv, hl, hz⟩ := I.list hs
  rw [Vals.ref1 r]
  refine set_of_list zs (I.ok.hd hc) hl.isList (by simpa using Vals.ints rv) (by show zs.length + 1 < 4096; omega) fun hp tk c R le kp => ?_
  exact ⟨.ref s.heap.objs.size, upd H s.heap.objs.size (SetO X.w s.heap.objs.size (fun j => decide (j ∈ zs)) c), I.laid (t' := tk) kp (Nat.le_refl _) (setO_new R), rfl, q _ c (I.hok.fresh (Nat.le_refl _))⟩
def rSortedSetA (w : World) : List V → Hp → VK → Prop := fun vs H Q => ∃ (a : Addr) (S : Int → Bool) (n : Nat), vs = [V.ref a] ∧ H a = some (SetO w a S n) ∧
  ∀ (zs : List Int) (p : Addr), zs.Pairwise (· < ·) → (∀ k : Int, k ∈ zs ↔ S k = true) → H p = none → Q (.ref p) (upd H p (.lst (zs.map V.int)))
theorem cr_sortedSetA (hc : X.calm = true) : CallR X (.builtin "sorted") (rSortedSetA X.w) := by
  intro pins s σ H vs us Q I r h
  obtain ⟨a, S, n, rfl, ha, q⟩ := h
  have R := setO_get I ha
  have hn : n < 4096 := by
    obtain ⟨_, es, _, _, _, _, _, _, _, _, b, _, e, _⟩ := R
    have b' : es.size < 4096 := b
    omega
  rw [Vals.ref1 r]
  refine sorted_set_any R (I.ok.hd hc) fun t p out c zs k g o hp hg hi hs hm hl => ?_
  have hlen : (zs.map V.int).length ≤ sizeLine := by
    rw [List.length_map, hl, sizeLine_eq]
    omega
  have fr : H p = none := I.hok.fresh hp
  have J : Inv X pins σ (upd H p (.lst (zs.map V.int))) { s with heap := t.heap, gens := t.gens, drawn := t.drawn, toks := t.toks } :=
    I.call (ch := []) (Un.laid k hp fr) (I.hok.laid k hp ⟨hlen, out.toList, c, vals_of_ints hi, hg⟩) (g ▸ I.bare) (fun _ z => nomatch z)
  have e : t = { s with heap := t.heap, gens := t.gens, drawn := t.drawn, toks := t.toks } := by
    cases t
    cases s
    cases o
    rfl
  rw [e]
  exact ⟨.ref p, _, J, rfl, q zs p hs hm fr⟩
/-- xs.remove(x), xs a list of orders, x one of them -/
def rRemR (C : Addr) : V → List V → Hp → VK → Prop := fun x xs H Q => ∃ (l : Addr) (rs : List Addr) (p : Addr) (j : Nat), x = .ref l ∧ xs = [.ref p] ∧ H l = some (.lst (rs.map V.ref)) ∧ rs[j]? = some p ∧ (∀ m : Nat, m < j → rs[m]? ≠ some p) ∧
  (∀ a ∈ rs, ∃ dx fs, H a = some (.ins C dx fs)) ∧ Q .non (upd H l (.lst ((rs.eraseIdx j).map V.ref)))
theorem refs_of : ∀ {rs : List Addr} {us : List Value}, Vals (rs.map V.ref) us → us = rs.map Value.ref
  | [], _, .nil => rfl
  | a :: rs, _, .cons r t => by
    cases r
    rw [refs_of t]
    rfl
theorem vals_refs : ∀ rs : List Addr, Vals (rs.map V.ref) (rs.map Value.ref)
  | [] => .nil
  | a :: rs => .cons rfl (vals_refs rs)
theorem erase_map {α β : Type} (g : α → β) : ∀ (l : List α) (j : Nat), (l.map g).eraseIdx j = (l.eraseIdx j).map g
  | [], j => by simp
  | a :: r, 0 => by simp
  | a :: r, j + 1 => by simp [erase_map g r j]
theorem mt_removeR {C : Addr} (pe : PlainEq X.K C) (hu : X.A.units + 64 < cLine) : MtR X "list.remove" (rRemR C) := by
  intro pins s σ H x xs v us Q I rx rxs h
  obtain ⟨l, rs, p, j, rfl, rfl, hH, hj, hno, ins, q⟩ := h
  cases rx
  obtain ⟨u, rfl, ru⟩ := rxs.one
  cases ru
  obtain ⟨z, its, n, r, hl, e⟩ := I.lstM hH
  have ei := refs_of r
  subst ei
  rw [List.length_map] at z
  have hjn : j < rs.length := (List.getElem?_eq_some_iff.mp hj).1
  have hjl : j < (rs.map Value.ref).toArray.size := by simpa using hjn
  have at1 : ∀ (m : Nat) (hm : m < (rs.map Value.ref).toArray.size) (hm2 : m < rs.length), (rs.map Value.ref).toArray[m] = Value.ref rs[m] := fun m hm hm2 => by simp
  refine call_meets PySem.F.slot_list_remove ⟨_, e, rfl⟩ PySem.F.entry_list_remove (PySem.F.args_list_remove_2 _ _)
    (SeqAt.list_removeAt l (rs.map Value.ref).toArray n none #[] (.ref p) (fun v => v == .ref p) j hjl ?_ ?_ (by simpa using z)) ⟨e, fun y hy => ?_, ?_⟩
  · have e2 : rs[j] = p := by
      rw [List.getElem?_eq_getElem hjn] at hj
      exact Option.some.inj hj
    rw [at1 j hjl hjn, e2]
    exact beq_self_eq_true _
  · intro m hm hmj
    have hm2 : m < rs.length := by omega
    rw [at1 m hm hm2]
    refine beq_eq_false_iff_ne.mpr fun e2 => hno m hmj ?_
    rw [List.getElem?_eq_getElem hm2]
    injection e2 with e3
    rw [e3]
  · obtain ⟨a, ha, rfl⟩ : ∃ a ∈ rs, y = Value.ref a := by
      have h2 : y ∈ rs.map Value.ref := by simpa using hy
      obtain ⟨a, ha, q⟩ := List.mem_map.mp h2
      exact ⟨a, ha, q.symm⟩
    have hp : p ∈ rs := List.mem_of_getElem? hj
    obtain ⟨d1, f1, i1⟩ := ins a ha
    obtain ⟨d2, f2, i2⟩ := ins p hp
    by_cases c : a = p
    · subst c
      have : (Value.ref a == Value.ref a) = true := beq_self_eq_true _
      rw [this]
      exact SeqAt.EqAt.same _
    · have : (Value.ref a == Value.ref p) = false := beq_eq_false_iff_ne.mpr fun z => c (by injection z)
      rw [this]
      obtain ⟨m1, O1, _⟩ := ins_get I.hok i1
      obtain ⟨m2, O2, _⟩ := ins_get I.hok i2
      obtain ⟨x1, J1, _⟩ := O1.look
      obtain ⟨x2, J2, _⟩ := O2.look
      refine eq_other ?_ I.kIn pe J1 J2 c
      first
        | (simp; omega)
        | (show X.A.units + 1 < cLine; omega)
        | (show X.A.units + 2 < cLine; omega)
        | (show X.A.units + 3 < cLine; omega)
  · have rr := vals_refs (rs.eraseIdx j)
    refine ⟨.non, _, I.lset (its' := (rs.eraseIdx j).map Value.ref) (t' := s.toks) hH e ?_ rr ?_, rfl, q⟩
    · show (rs.map Value.ref).toArray.eraseIdxIfInBounds j = ((rs.eraseIdx j).map Value.ref).toArray
      rw [List.eraseIdxIfInBounds_toArray, erase_map]
    · have z2 := List.length_eraseIdx_le rs j
      rw [List.length_map]
      omega
end
end SB
/-! ### the mirror: the program's own way over plain lists -/
namespace SB
open Sd17
/-- an order of the program: where it stands, what it is, and the kind and the trigger that the program keeps of it -/
structure R where
  a : Nat
  o : Order
  k : Nat
  t : Int
structure M where
  buys : List R
  sells : List R
  waits : List R
  last : Nat
  auc : Bool
def M.side (m : M) (buy : Bool) : List R := if buy = true then m.buys else m.sells
def M.put (m : M) (buy : Bool) (l : List R) : M := if buy = true then { m with buys := l } else { m with sells := l }
def M.at (m : M) (la : Nat) : M := { m with last := la }
def setAm (r : R) (n : Nat) : R := { r with o := { r.o with amount := n } }
def zeroK (r : R) : R := { r with o := { r.o with kind := 0 } }
def trd : R → List R → Nat → R × List R × Nat × List Ev
  | r, [], la => (r, [], la, [])
  | r, b :: l, la =>
    if r.o.amount = 0 then (r, b :: l, la, [])
    else if takes r.o b.o.price = false then (r, b :: l, la, [])
    else if b.o.who = r.o.who then
      ((trd r l la).1, (trd r l la).2.1, (trd r l la).2.2.1, .ended b.o.id 5 b.o.price b.o.amount :: (trd r l la).2.2.2)
    else if b.o.amount - min r.o.amount b.o.amount = 0 then
      let x := trd (setAm r (r.o.amount - min r.o.amount b.o.amount)) l b.o.price
      (x.1, x.2.1, x.2.2.1, .trade r.o.id b.o.id b.o.price (min r.o.amount b.o.amount) (b.o.amount - min r.o.amount b.o.amount) :: x.2.2.2)
    else (setAm r (r.o.amount - min r.o.amount b.o.amount), setAm b (b.o.amount - min r.o.amount b.o.amount) :: l, b.o.price,
      [.trade r.o.id b.o.id b.o.price (min r.o.amount b.o.amount) (b.o.amount - min r.o.amount b.o.amount)])
def ins (r : R) : List R → List R
  | [] => [r]
  | x :: l => if better r.o.buy r.o.price x.o.price = true then r :: x :: l else x :: ins r l
def restM (r : R) (m : M) : M := m.put r.o.buy (ins r (m.side r.o.buy))
def readyM (r : R) (l : List R) : Nat := (((l.filter fun b => b.o.who != r.o.who).filter fun b => takes r.o b.o.price).map fun b => b.o.amount).sum
def headTakes (r : R) (l : List R) : Bool := match l with
  | [] => false
  | b :: _ => takes r.o b.o.price
def settleM (r : R) (m : M) : M × List Ev :=
  if r.o.amount = 0 then (m, [])
  else if r.o.kind = 0 ∨ r.o.kind = 4 then (restM (zeroK r) m, [.rests r.o.id r.o.price r.o.amount])
  else (m, [.ended r.o.id 2 r.o.price r.o.amount])
/-- what is traded: the order, the book, the events -/
def tradeM (r : R) (m : M) : R × M × List Ev :=
  ((trd r (m.side (!r.o.buy)) m.last).1, (m.put (!r.o.buy) (trd r (m.side (!r.o.buy)) m.last).2.1).at (trd r (m.side (!r.o.buy)) m.last).2.2.1, (trd r (m.side (!r.o.buy)) m.last).2.2.2)
def comeM (r : R) (m : M) : M × List Ev :=
  if r.o.kind = 3 ∧ readyM r (m.side (!r.o.buy)) < r.o.amount then (m, [.ended r.o.id 3 r.o.price r.o.amount])
  else if r.o.kind = 4 ∧ headTakes r (m.side (!r.o.buy)) = true then (m, [.ended r.o.id 4 r.o.price r.o.amount])
  else ((settleM (tradeM r m).1 (tradeM r m).2.1).1, (tradeM r m).2.2 ++ (settleM (tradeM r m).1 (tradeM r m).2.1).2)
def wake (r : R) : R := { r with o := { r.o with kind := if r.o.kind = 5 then 1 else 0 }, k := if r.o.kind = 5 then 1 else 0 }
def nowM (m : M) : List R := m.waits.filter fun r => pulls r.o m.last
def offM (m : M) : M := { m with waits := m.waits.filter fun r => !pulls r.o m.last }
def trigE (m : M) : List Ev := (nowM m).map fun r => Ev.triggered r.o.id m.last
def loopM : Nat → List R → M → M × List Ev
  | 0, _, m => (m, [])
  | _ + 1, [], m => (m, [])
  | k + 1, r :: F, m =>
    let x := comeM r m
    let z := loopM k (F ++ (nowM x.1).map wake) (offM x.1)
    (z.1, x.2 ++ (trigE x.1 ++ z.2))
def stopsM (m : M) : M × List Ev :=
  ((loopM m.waits.length ((nowM m).map wake) (offM m)).1, trigE m ++ (loopM m.waits.length ((nowM m).map wake) (offM m)).2)
def crossM (price : Nat) : Nat → M → M × List Ev
  | 0, m => (m, [])
  | k + 1, m => match m.buys, m.sells with
    | x :: bs, y :: ss => if x.o.price < price ∨ price < y.o.price then (m, []) else
      let n := min x.o.amount y.o.amount
      let z := crossM price k { m with buys := if x.o.amount - n = 0 then bs else setAm x (x.o.amount - n) :: bs, sells := if y.o.amount - n = 0 then ss else setAm y (y.o.amount - n) :: ss, last := price }
      (z.1, .trade x.o.id y.o.id price n (y.o.amount - n) :: z.2)
    | _, _ => (m, [])
/-! ### lines -/
def insO (o : Order) : List Order → List Order
  | [] => [o]
  | x :: l => if better o.buy o.price x.price = true then o :: x :: l else x :: insO o l
def lineOf (buy : Bool) (l : List Order) : List Order := (l.filter fun o => o.buy == buy).foldl (fun acc o => insO o acc) []
theorem ins_map (r : R) : ∀ l : List R, (ins r l).map (·.o) = insO r.o (l.map (·.o))
  | [] => rfl
  | x :: l => by
    have ih := ins_map r l
    simp only [ins, List.map_cons, insO]
    split
    · rfl
    · rw [List.map_cons, ih]
theorem lineOf_snoc (buy : Bool) (l : List Order) (o : Order) : lineOf buy (l ++ [o]) = if o.buy = buy then insO o (lineOf buy l) else lineOf buy l := by
  unfold lineOf
  rw [List.filter_append, List.foldl_append]
  by_cases h : o.buy = buy
  · subst h
    simp
  · simp [h]
theorem insO_perm (o : Order) : ∀ l : List Order, (insO o l).Perm (o :: l)
  | [] => List.Perm.refl _
  | x :: l => by
    unfold insO
    split
    · exact List.Perm.refl _
    · exact ((insO_perm o l).cons x).trans (List.Perm.swap o x l)
theorem foldl_ins_perm : ∀ (l acc : List Order), (l.foldl (fun acc o => insO o acc) acc).Perm (acc ++ l)
  | [], acc => by simp
  | o :: l, acc => by
    rw [List.foldl_cons]
    refine (foldl_ins_perm l (insO o acc)).trans ?_
    refine ((insO_perm o acc).append_right l).trans ?_
    exact (List.perm_middle (a := o) (l₁ := acc) (l₂ := l)).symm
theorem lineOf_perm (buy : Bool) (l : List Order) : (lineOf buy l).Perm (l.filter fun o => o.buy == buy) := by
  have h := foldl_ins_perm (l.filter fun o => o.buy == buy) []
  exact h
theorem lineOf_mem {buy : Bool} {l : List Order} {o : Order} : o ∈ lineOf buy l ↔ o ∈ l ∧ o.buy = buy := by
  rw [(lineOf_perm buy l).mem_iff, List.mem_filter]
  simp
/-- in order: none is better than one ahead of it -/
def Srt (buy : Bool) (l : List Order) : Prop := l.Pairwise fun x y => better buy y.price x.price = false
theorem better_false {buy : Bool} {p q : Nat} : better buy p q = false ↔ (if buy = true then p ≤ q else q ≤ p) := by
  unfold better
  cases buy <;> simp
theorem better_true {buy : Bool} {p q : Nat} : better buy p q = true ↔ (if buy = true then q < p else p < q) := by
  unfold better
  cases buy <;> simp
theorem insO_srt {buy : Bool} {o : Order} (ho : o.buy = buy) : ∀ {l : List Order}, Srt buy l → Srt buy (insO o l)
  | [], _ => List.pairwise_singleton _ _
  | x :: l, h => by
    obtain ⟨h1, h2⟩ := List.pairwise_cons.mp h
    unfold insO
    rw [ho]
    split
    · rename_i hb
      refine List.pairwise_cons.mpr ⟨fun y hy => ?_, h⟩
      rw [better_true] at hb
      rw [better_false]
      rcases List.mem_cons.mp hy with rfl | hy
      · cases buy <;> simp_all <;> omega
      · have := better_false.mp (h1 y hy)
        cases buy <;> simp_all <;> omega
    · rename_i hb
      refine List.pairwise_cons.mpr ⟨fun y hy => ?_, insO_srt ho h2⟩
      rcases List.mem_cons.mp ((insO_perm o l).mem_iff.mp hy) with rfl | hy
      · exact Bool.eq_false_iff.mpr hb
      · exact h1 y hy
theorem foldl_srt {buy : Bool} : ∀ (l acc : List Order), (∀ o ∈ l, o.buy = buy) → Srt buy acc → Srt buy (l.foldl (fun acc o => insO o acc) acc)
  | [], _, _, h => h
  | o :: l, acc, hl, h => by
    rw [List.foldl_cons]
    exact foldl_srt l _ (fun x hx => hl x (List.mem_cons_of_mem _ hx)) (insO_srt (hl o (List.mem_cons_self ..)) h)
theorem lineOf_srt (buy : Bool) (l : List Order) : Srt buy (lineOf buy l) :=
  foldl_srt _ [] (fun o ho => by have := (List.mem_filter.mp ho).2; simpa using this) List.Pairwise.nil
/-- the best is the line's head -/
theorem best_head (buy : Bool) (l : List Order) : best buy l = (lineOf buy l).head? := by
  unfold best lineOf
  have key : ∀ (f : List Order) (acc : List Order), (∀ o ∈ f, o.buy = buy) → f.foldl (fun m o => match m with
      | none => some o
      | some x => if better buy o.price x.price = true then some o else some x) acc.head? = (f.foldl (fun acc o => insO o acc) acc).head? := by
    intro f
    induction f with
    | nil => intro acc _; rfl
    | cons o f ih =>
      intro acc hf
      rw [List.foldl_cons, List.foldl_cons, ← ih _ (fun x hx => hf x (List.mem_cons_of_mem _ hx))]
      congr 1
      have hb := hf o (List.mem_cons_self ..)
      cases acc with
      | nil => rfl
      | cons x t =>
        simp only [List.head?_cons, insO, hb]
        split <;> rfl
  exact key _ [] fun o ho => by have := (List.mem_filter.mp ho).2; simpa using this
theorem insO_filter_no {p : Order → Bool} {o : Order} (hp : p o = false) : ∀ l : List Order, (insO o l).filter p = l.filter p
  | [] => by simp [insO, hp]
  | x :: l => by
    unfold insO
    split
    · rw [List.filter_cons_of_neg (by simp [hp])]
    · rw [List.filter_cons, insO_filter_no hp l, List.filter_cons]
/-- taking out of an ordered line -/
theorem insO_filter {p : Order → Bool} {buy : Bool} {o : Order} (ho : o.buy = buy) (hp : p o = true) : ∀ {l : List Order}, Srt buy l → (insO o l).filter p = insO o (l.filter p)
  | [], _ => by simp [insO, hp]
  | x :: l, h => by
    obtain ⟨h1, h2⟩ := List.pairwise_cons.mp h
    have ih := insO_filter ho hp h2
    unfold insO
    by_cases hb : better o.buy o.price x.price = true
    · rw [if_pos hb, List.filter_cons_of_pos hp]
      by_cases hx : p x = true
      · rw [List.filter_cons_of_pos hx]
        simp [insO, hb]
      · rw [List.filter_cons_of_neg hx]
        -- all behind x are worse than o, too
        cases e : l.filter p with
        | nil => rfl
        | cons y t =>
          have hy : y ∈ l := (List.mem_filter.mp (by rw [e]; exact List.mem_cons_self ..)).1
          have a := better_false.mp (h1 y hy)
          have c : better o.buy o.price y.price = true := by
            rw [ho] at hb ⊢
            rw [better_true] at hb ⊢
            cases buy <;> simp_all <;> omega
          simp [insO, c]
    · rw [if_neg hb]
      by_cases hx : p x = true
      · rw [List.filter_cons_of_pos hx, List.filter_cons_of_pos hx, ih]
        simp [insO, hb]
      · rw [List.filter_cons_of_neg hx, List.filter_cons_of_neg hx, ih]
        cases List.filter p l <;> rfl
theorem lineOf_filter (buy : Bool) (p : Order → Bool) : ∀ l : List Order, lineOf buy (l.filter p) = (lineOf buy l).filter p := by
  have key : ∀ (n : Nat) (l : List Order), l.length = n → lineOf buy (l.filter p) = (lineOf buy l).filter p := by
    intro n
    induction n with
    | zero =>
      intro l hl
      rw [List.eq_nil_of_length_eq_zero hl]
      rfl
    | succ n ih =>
      intro l hl
      obtain ⟨t, o, rfl⟩ : ∃ t o, l = t ++ [o] := by
        refine ⟨l.dropLast, l.getLast (by intro e; rw [e] at hl; simp at hl), ?_⟩
        exact (List.dropLast_concat_getLast _).symm
      have ht : t.length = n := by
        rw [List.length_append, List.length_singleton] at hl
        omega
      rw [List.filter_append, lineOf_snoc]
      by_cases hp : p o = true
      · have e : [o].filter p = [o] := by simp [hp]
        rw [e, lineOf_snoc, ih t ht]
        split
        · rename_i hb
          rw [insO_filter hb hp (lineOf_srt buy t)]
        · rfl
      · have e : [o].filter p = [] := by simp [hp]
        rw [e, List.append_nil, ih t ht]
        split
        · rw [insO_filter_no (by simpa using hp)]
        · rfl
  exact fun l => key _ l rfl
theorem insO_map {g : Order → Order} (g1 : ∀ o, (g o).buy = o.buy) (g2 : ∀ o, (g o).price = o.price) (o : Order) : ∀ l : List Order, (insO o l).map g = insO (g o) (l.map g)
  | [] => rfl
  | x :: l => by
    have ih := insO_map g1 g2 o l
    simp only [insO, List.map_cons, g1, g2]
    split
    · rfl
    · rw [List.map_cons, ih]
theorem lineOf_map (buy : Bool) {g : Order → Order} (g1 : ∀ o, (g o).buy = o.buy) (g2 : ∀ o, (g o).price = o.price) (l : List Order) : lineOf buy (l.map g) = (lineOf buy l).map g := by
  have key : ∀ (f acc : List Order), (f.map g).foldl (fun acc o => insO o acc) (acc.map g) = (f.foldl (fun acc o => insO o acc) acc).map g := by
    intro f
    induction f with
    | nil => intro acc; rfl
    | cons o f ih =>
      intro acc
      rw [List.map_cons, List.foldl_cons, List.foldl_cons, ← ih, insO_map g1 g2]
  unfold lineOf
  have e : ((l.map g).filter fun o => o.buy == buy) = (l.filter fun o => o.buy == buy).map g := by
    rw [List.filter_map]
    congr 1
    apply List.filter_congr
    intro o _
    simp [g1]
  rw [e]
  exact key _ []
end SB
namespace SB
open Sd17
theorem nodup_inj {α β : Type} {f : α → β} : ∀ {l : List α}, (l.map f).Nodup → ∀ {x y : α}, x ∈ l → y ∈ l → f x = f y → x = y
  | [], _, _, _, hx, _, _ => by cases hx
  | a :: l, h, x, y, hx, hy, e => by
    rw [List.map_cons] at h
    obtain ⟨h1, h2⟩ := List.nodup_cons.mp h
    rcases List.mem_cons.mp hx with h3 | h3
    · rcases List.mem_cons.mp hy with h4 | h4
      · rw [h3, h4]
      · exact absurd (List.mem_map.mpr ⟨y, h4, by rw [← e, h3]⟩) h1
    · rcases List.mem_cons.mp hy with h4 | h4
      · exact absurd (List.mem_map.mpr ⟨x, h3, by rw [e, h4]⟩) h1
      · exact nodup_inj h2 h3 h4 e
theorem line_nodup {buy : Bool} {rest : List Order} (nd : (rest.map (·.id)).Nodup) : ((lineOf buy rest).map (·.id)).Nodup := by
  rw [((lineOf_perm buy rest).map (·.id)).nodup_iff]
  exact List.Sublist.nodup ((List.filter_sublist (l := rest)).map (·.id)) nd
theorem filter_all {α : Type} {p : α → Bool} {l : List α} (h : ∀ x ∈ l, p x = true) : l.filter p = l := List.filter_eq_self.mpr h
theorem gone_line {rest : List Order} {buy : Bool} {x : Order} {l : List Order} (nd : (rest.map (·.id)).Nodup) (e : lineOf buy rest = x :: l) :
    lineOf buy (gone x.id rest) = l ∧ lineOf (!buy) (gone x.id rest) = lineOf (!buy) rest := by
  unfold gone
  have hn := line_nodup (buy := buy) nd
  have hx := lineOf_mem.mp (show x ∈ lineOf buy rest by rw [e]; exact List.mem_cons_self ..)
  constructor
  · rw [lineOf_filter, e, List.filter_cons_of_neg (by simp)]
    rw [e, List.map_cons] at hn
    refine filter_all fun y hy => ?_
    have : y.id ≠ x.id := fun z => (List.nodup_cons.mp hn).1 (z ▸ List.mem_map.mpr ⟨y, hy, rfl⟩)
    simpa using this
  · rw [lineOf_filter]
    refine filter_all fun y hy => ?_
    have hy' := lineOf_mem.mp hy
    have : y.id ≠ x.id := fun z => by
      have := nodup_inj nd hy'.1 hx.1 z
      rw [this, hx.2] at hy'
      cases buy <;> simp at hy'
    simpa using this
def reAm (id n : Nat) (o : Order) : Order := if o.id = id then { o with amount := n } else o
theorem reAm_buy (id n : Nat) (o : Order) : (reAm id n o).buy = o.buy := by unfold reAm; split <;> rfl
theorem reAm_price (id n : Nat) (o : Order) : (reAm id n o).price = o.price := by unfold reAm; split <;> rfl
theorem reAm_id (id n : Nat) (o : Order) : (reAm id n o).id = o.id := by unfold reAm; split <;> rfl
theorem reAm_kind (id n : Nat) (o : Order) : (reAm id n o).kind = o.kind := by unfold reAm; split <;> rfl
theorem left_pos {id n : Nat} (h : n ≠ 0) (l : List Order) : left id n l = l.map (reAm id n) := by
  unfold left
  rw [if_neg h]
  rfl
theorem map_id_of {α : Type} {f : α → α} : ∀ {l : List α}, (∀ x ∈ l, f x = x) → l.map f = l
  | [], _ => rfl
  | a :: l, h => by rw [List.map_cons, h a (List.mem_cons_self ..), map_id_of fun x hx => h x (List.mem_cons_of_mem _ hx)]
theorem left_line {rest : List Order} {buy : Bool} {x : Order} {l : List Order} {n : Nat} (nd : (rest.map (·.id)).Nodup) (e : lineOf buy rest = x :: l) (h : n ≠ 0) :
    lineOf buy (left x.id n rest) = { x with amount := n } :: l ∧ lineOf (!buy) (left x.id n rest) = lineOf (!buy) rest := by
  rw [left_pos h]
  have hn := line_nodup (buy := buy) nd
  have hx := lineOf_mem.mp (show x ∈ lineOf buy rest by rw [e]; exact List.mem_cons_self ..)
  constructor
  · rw [lineOf_map buy (reAm_buy _ _) (reAm_price _ _), e, List.map_cons]
    rw [e, List.map_cons] at hn
    congr 1
    · simp [reAm]
    · refine map_id_of fun y hy => ?_
      have : y.id ≠ x.id := fun z => (List.nodup_cons.mp hn).1 (z ▸ List.mem_map.mpr ⟨y, hy, rfl⟩)
      simp [reAm, this]
  · rw [lineOf_map _ (reAm_buy _ _) (reAm_price _ _)]
    refine map_id_of fun y hy => ?_
    have hy' := lineOf_mem.mp hy
    have : y.id ≠ x.id := fun z => by
      have := nodup_inj nd hy'.1 hx.1 z
      rw [this, hx.2] at hy'
      cases buy <;> simp at hy'
    simp [reAm, this]
theorem gone_ids (id : Nat) (l : List Order) : ((gone id l).map (·.id)).Sublist (l.map (·.id)) := (List.filter_sublist (l := l)).map _
theorem left_ids (id n : Nat) (l : List Order) : ((left id n l).map (·.id)).Sublist (l.map (·.id)) := by
  by_cases h : n = 0
  · unfold left
    rw [if_pos h]
    exact gone_ids id l
  · rw [left_pos h, List.map_map]
    have : ((fun o : Order => o.id) ∘ reAm id n) = fun o => o.id := by
      funext o
      exact reAm_id id n o
    rw [this]
    exact List.Sublist.refl _
/-- what of a resting order stays as it is -/
def Like (o p : Order) : Prop := o.id = p.id ∧ o.price = p.price ∧ o.kind = p.kind ∧ o.buy = p.buy ∧ o.amount ≤ p.amount
def LikeAll (l l' : List Order) : Prop := ∀ o ∈ l, ∃ p ∈ l', Like o p
theorem LikeAll.refl (l : List Order) : LikeAll l l := fun o ho => ⟨o, ho, rfl, rfl, rfl, rfl, Nat.le_refl _⟩
theorem LikeAll.trans {a b c : List Order} (h : LikeAll a b) (g : LikeAll b c) : LikeAll a c := fun o ho => by
  obtain ⟨p, hp, e1, e2, e3, e4, e5⟩ := h o ho
  obtain ⟨q, hq, f1, f2, f3, f4, f5⟩ := g p hp
  exact ⟨q, hq, e1.trans f1, e2.trans f2, e3.trans f3, e4.trans f4, Nat.le_trans e5 f5⟩
theorem gone_like (id : Nat) (l : List Order) : LikeAll (gone id l) l := fun o ho => ⟨o, (List.mem_filter.mp ho).1, rfl, rfl, rfl, rfl, Nat.le_refl _⟩
theorem left_like {rest : List Order} (nd : (rest.map (·.id)).Nodup) {x : Order} (hx : x ∈ rest) {n : Nat} (hn : n ≤ x.amount) : LikeAll (left x.id n rest) rest := by
  by_cases h : n = 0
  · unfold left
    rw [if_pos h]
    exact gone_like _ _
  · rw [left_pos h]
    intro o ho
    obtain ⟨p, hp, rfl⟩ := List.mem_map.mp ho
    refine ⟨p, hp, reAm_id _ _ _, reAm_price _ _ _, reAm_kind _ _ _, reAm_buy _ _ _, ?_⟩
    unfold reAm
    split
    · rename_i e
      have := nodup_inj nd hp hx e
      subst this
      exact hn
    · exact Nat.le_refl _
structure Met (k : Nat) (r : R) (l : List R) (b : Book) : Prop where
  o : (meet k r.o b).1 = (trd r l b.last).1.o
  ev : (meet k r.o b).2.2 = (trd r l b.last).2.2.2
  line : (trd r l b.last).2.1.map (·.o) = lineOf (!r.o.buy) (meet k r.o b).2.1.rest
  own : lineOf r.o.buy (meet k r.o b).2.1.rest = lineOf r.o.buy b.rest
  stops : (meet k r.o b).2.1.stops = b.stops
  last : (meet k r.o b).2.1.last = (trd r l b.last).2.2.1
  auc : (meet k r.o b).2.1.auction = b.auction
  ids : ((meet k r.o b).2.1.rest.map (·.id)).Sublist (b.rest.map (·.id))
  like : LikeAll (meet k r.o b).2.1.rest b.rest
  same : (trd r l b.last).1.a = r.a ∧ (trd r l b.last).1.k = r.k ∧ (trd r l b.last).1.t = r.t ∧ (trd r l b.last).1.o = { r.o with amount := (trd r l b.last).1.o.amount } ∧ (trd r l b.last).1.o.amount ≤ r.o.amount
theorem meet_stop {k : Nat} {o : Order} {b : Book} (h : o.amount = 0 ∨ best (!o.buy) b.rest = none ∨ ∃ x, best (!o.buy) b.rest = some x ∧ takes o x.price = false) : meet k o b = (o, b, []) := by
  cases k with
  | zero => rfl
  | succ k =>
    unfold meet
    by_cases ha : o.amount = 0
    · rw [if_pos ha]
    · rw [if_neg ha]
      rcases h with h | h | ⟨x, h, h2⟩
      · exact absurd h ha
      · rw [h]
      · rw [h]
        simp [h2]
theorem met_stop {k : Nat} {r : R} {l : List R} {b : Book} (e : l.map (·.o) = lineOf (!r.o.buy) b.rest) (h : meet k r.o b = (r.o, b, [])) (h2 : trd r l b.last = (r, l, b.last, [])) : Met k r l b := by
  refine ⟨?_, ?_, ?_, ?_, ?_, ?_, ?_, ?_, ?_, ?_⟩ <;> (try rw [h2]) <;> (try rw [h])
  · exact e
  · exact List.Sublist.refl _
  · exact LikeAll.refl _
  · exact ⟨rfl, rfl, rfl, rfl, Nat.le_refl _⟩
theorem trd_zero {r : R} (h : r.o.amount = 0) : ∀ (l : List R) (la : Nat), trd r l la = (r, l, la, [])
  | [], la => rfl
  | x :: l, la => by simp [trd, h]
theorem met : ∀ (l : List R) (k : Nat) (r : R) (b : Book), l.map (·.o) = lineOf (!r.o.buy) b.rest → l.length < k → (b.rest.map (·.id)).Nodup → Met k r l b
  | [], k, r, b, e, hk, nd => by
    refine met_stop e (meet_stop (.inr (.inl ?_))) (by simp [trd])
    rw [best_head, ← e]
    rfl
  | x :: l, 0, r, b, e, hk, nd => by cases hk
  | x :: l, k + 1, r, b, e, hk, nd => by
    have hb : best (!r.o.buy) b.rest = some x.o := by
      rw [best_head, ← e]
      rfl
    have e' : lineOf (!r.o.buy) b.rest = x.o :: l.map (·.o) := by rw [← e, List.map_cons]
    by_cases ha : r.o.amount = 0
    · exact met_stop e (meet_stop (.inl ha)) (trd_zero ha _ _)
    by_cases ht : takes r.o x.o.price = false
    · exact met_stop e (meet_stop (.inr (.inr ⟨x.o, hb, ht⟩))) (by simp [trd, ha, ht])
    have hx := lineOf_mem.mp (show x.o ∈ lineOf (!r.o.buy) b.rest by rw [e']; exact List.mem_cons_self ..)
    by_cases hw : x.o.who = r.o.who
    · obtain ⟨g1, g2⟩ := gone_line nd e'
      rw [Bool.not_not] at g2
      have ih := met l k r { b with rest := gone x.o.id b.rest } g1.symm (by simp at hk; omega) (List.Sublist.nodup (gone_ids _ _) nd)
      have em : meet (k + 1) r.o b = ((meet k r.o { b with rest := gone x.o.id b.rest }).1, (meet k r.o { b with rest := gone x.o.id b.rest }).2.1, .ended x.o.id 5 x.o.price x.o.amount :: (meet k r.o { b with rest := gone x.o.id b.rest }).2.2) := by
        rw [meet, if_neg ha, hb]
        simp only [ht, hw, if_true, if_false]
        rfl
      have et : trd r (x :: l) b.last = ((trd r l b.last).1, (trd r l b.last).2.1, (trd r l b.last).2.2.1, .ended x.o.id 5 x.o.price x.o.amount :: (trd r l b.last).2.2.2) := by
        rw [trd, if_neg ha, if_neg ht, if_pos hw]
      refine ⟨?_, ?_, ?_, ?_, ?_, ?_, ?_, ?_, ?_, ?_⟩ <;> (try rw [et]) <;> (try rw [em])
      · exact ih.o
      · exact congrArg _ ih.ev
      · exact ih.line
      · exact ih.own.trans g2
      · exact ih.stops
      · exact ih.last
      · exact ih.auc
      · exact ih.ids.trans (gone_ids _ _)
      · exact ih.like.trans (gone_like _ _)
      · exact ih.same
    · generalize hn : min r.o.amount x.o.amount = n
      have hnx : n ≤ x.o.amount := by omega
      have em : meet (k + 1) r.o b = ((meet k { r.o with amount := r.o.amount - n } { b with rest := left x.o.id (x.o.amount - n) b.rest, last := x.o.price }).1, (meet k { r.o with amount := r.o.amount - n } { b with rest := left x.o.id (x.o.amount - n) b.rest, last := x.o.price }).2.1,
          .trade r.o.id x.o.id x.o.price n (x.o.amount - n) :: (meet k { r.o with amount := r.o.amount - n } { b with rest := left x.o.id (x.o.amount - n) b.rest, last := x.o.price }).2.2) := by
        rw [meet, if_neg ha, hb]
        simp only [ht, hw, if_false, hn]
        rfl
      have nd' : ((left x.o.id (x.o.amount - n) b.rest).map (·.id)).Nodup := List.Sublist.nodup (left_ids _ _ _) nd
      have lk : LikeAll (left x.o.id (x.o.amount - n) b.rest) b.rest := left_like nd hx.1 (by omega)
      by_cases hz : x.o.amount - n = 0
      · have lg : left x.o.id (x.o.amount - n) b.rest = gone x.o.id b.rest := by
          unfold left
          rw [if_pos hz]
        obtain ⟨g1, g2⟩ := gone_line nd e'
        rw [Bool.not_not] at g2
        rw [← lg] at g1 g2
        have ih := met l k (setAm r (r.o.amount - n)) { b with rest := left x.o.id (x.o.amount - n) b.rest, last := x.o.price } g1.symm (by simp at hk; omega) nd'
        have et : trd r (x :: l) b.last = ((trd (setAm r (r.o.amount - n)) l x.o.price).1, (trd (setAm r (r.o.amount - n)) l x.o.price).2.1, (trd (setAm r (r.o.amount - n)) l x.o.price).2.2.1,
            .trade r.o.id x.o.id x.o.price n (x.o.amount - n) :: (trd (setAm r (r.o.amount - n)) l x.o.price).2.2.2) := by
          rw [trd, if_neg ha, if_neg ht, if_neg hw, hn, if_pos hz]
        refine ⟨?_, ?_, ?_, ?_, ?_, ?_, ?_, ?_, ?_, ?_⟩ <;> (try rw [et]) <;> (try rw [em])
        · exact ih.o
        · exact congrArg _ ih.ev
        · exact ih.line
        · exact ih.own.trans g2
        · exact ih.stops
        · exact ih.last
        · exact ih.auc
        · exact ih.ids.trans (left_ids _ _ _)
        · exact ih.like.trans lk
        · obtain ⟨i1, i2, i3, i4, i5⟩ := ih.same
          exact ⟨i1, i2, i3, i4, Nat.le_trans i5 (Nat.sub_le _ _)⟩
      · obtain ⟨g1, g2⟩ := left_line nd e' hz
        rw [Bool.not_not] at g2
        have hr0 : r.o.amount - n = 0 := by omega
        have es : meet k { r.o with amount := r.o.amount - n } { b with rest := left x.o.id (x.o.amount - n) b.rest, last := x.o.price } = ({ r.o with amount := r.o.amount - n }, { b with rest := left x.o.id (x.o.amount - n) b.rest, last := x.o.price }, []) := meet_stop (.inl hr0)
        have et : trd r (x :: l) b.last = (setAm r (r.o.amount - n), setAm x (x.o.amount - n) :: l, x.o.price, [.trade r.o.id x.o.id x.o.price n (x.o.amount - n)]) := by
          rw [trd, if_neg ha, if_neg ht, if_neg hw, hn, if_neg hz]
        rw [es] at em
        refine ⟨?_, ?_, ?_, ?_, ?_, ?_, ?_, ?_, ?_, ?_⟩ <;> (try rw [et]) <;> (try rw [em])
        · rfl
        · exact g1.symm
        · exact g2
        · exact left_ids _ _ _
        · exact lk
        · exact ⟨rfl, rfl, rfl, rfl, Nat.sub_le _ _⟩
end SB
namespace SB
open Sd17
structure Rel (m : M) (b : Book) : Prop where
  buys : m.buys.map (·.o) = lineOf true b.rest
  sells : m.sells.map (·.o) = lineOf false b.rest
  waits : m.waits.map (·.o) = b.stops
  last : m.last = b.last
  auc : m.auc = b.auction
theorem Rel.side {m : M} {b : Book} (h : Rel m b) (buy : Bool) : (m.side buy).map (·.o) = lineOf buy b.rest := by
  cases buy
  · exact h.sells
  · exact h.buys
def Nd (b : Book) : Prop := ((b.rest ++ b.stops).map (·.id)).Nodup
structure Good (b : Book) : Prop where
  rest : ∀ o ∈ b.rest, o.kind = 0 ∧ 1 ≤ o.id ∧ 1 ≤ o.price
  stops : ∀ o ∈ b.stops, (o.kind = 5 ∨ o.kind = 6) ∧ 1 ≤ o.id ∧ (o.kind = 6 → 1 ≤ o.price) ∧ (o.kind = 5 → o.price = 0)
/-- an order that may come -/
structure Fine (o : Order) (b : Book) : Prop where
  new : o.id ∉ (b.rest ++ b.stops).map (·.id)
  id : 1 ≤ o.id
  kind : o.kind ≤ 4
  price : o.kind ≠ 1 → 1 ≤ o.price
theorem nd_rest {b : Book} (h : Nd b) : (b.rest.map (·.id)).Nodup := by
  unfold Nd at h
  rw [List.map_append] at h
  exact (List.nodup_append.mp h).1
theorem rel_best {m : M} {b : Book} (h : Rel m b) (buy : Bool) : best buy b.rest = (m.side buy).head?.map (·.o) := by
  rw [best_head, ← h.side buy, List.head?_map]
theorem sum_perm {l₁ l₂ : List Nat} (h : l₁.Perm l₂) : l₁.sum = l₂.sum := by
  induction h with
  | nil => rfl
  | cons x _ ih => rw [List.sum_cons, List.sum_cons, ih]
  | swap x y l => simp only [List.sum_cons]; omega
  | trans _ _ i1 i2 => exact i1.trans i2
theorem ready_eq {m : M} {b : Book} (h : Rel m b) (r : R) : readyM r (m.side (!r.o.buy)) = ready r.o b := by
  have e1 : ((((m.side (!r.o.buy)).filter fun x => x.o.who != r.o.who).filter fun x => takes r.o x.o.price).map fun x => x.o.amount)
      = (((lineOf (!r.o.buy) b.rest).filter fun x => x.who != r.o.who).filter fun x => takes r.o x.price).map fun x => x.amount := by
    rw [← h.side (!r.o.buy), List.filter_map, List.filter_map, List.map_map]
    rfl
  unfold readyM ready
  rw [e1, List.filter_filter]
  refine sum_perm (List.Perm.map _ ?_)
  refine ((lineOf_perm (!r.o.buy) b.rest).filter _).trans ?_
  rw [List.filter_filter]
  refine List.Perm.of_eq (List.filter_congr fun o _ => ?_)
  cases o.buy <;> cases r.o.buy <;> simp
theorem head_eq {m : M} {b : Book} (h : Rel m b) (r : R) : headTakes r (m.side (!r.o.buy)) = true ↔ ((best (!r.o.buy) b.rest).map fun x => takes r.o x.price) = some true := by
  rw [rel_best h]
  unfold headTakes
  cases m.side (!r.o.buy) with
  | nil => simp
  | cons x l => simp
theorem side_put (m : M) (buy : Bool) (l : List R) : (m.put buy l).side buy = l := by cases buy <;> rfl
theorem side_put_ne (m : M) (buy : Bool) (l : List R) : (m.put buy l).side (!buy) = m.side (!buy) := by cases buy <;> rfl
theorem put_waits (m : M) (buy : Bool) (l : List R) : (m.put buy l).waits = m.waits := by cases buy <;> rfl
theorem put_last (m : M) (buy : Bool) (l : List R) : (m.put buy l).last = m.last := by cases buy <;> rfl
theorem put_auc (m : M) (buy : Bool) (l : List R) : (m.put buy l).auc = m.auc := by cases buy <;> rfl
theorem Rel.mk_side {m : M} {b : Book} (buy : Bool) (h1 : (m.side buy).map (·.o) = lineOf buy b.rest) (h2 : (m.side (!buy)).map (·.o) = lineOf (!buy) b.rest) (h3 : m.waits.map (·.o) = b.stops) (h4 : m.last = b.last) (h5 : m.auc = b.auction) : Rel m b := by
  cases buy
  · exact ⟨h2, h1, h3, h4, h5⟩
  · exact ⟨h1, h2, h3, h4, h5⟩
/-- an order comes to rest -/
theorem rel_rest {m : M} {b : Book} (h : Rel m b) (r : R) : Rel (restM r m) { b with rest := b.rest ++ [r.o] } := by
  refine Rel.mk_side r.o.buy ?_ ?_ ?_ ?_ ?_
  · show ((m.put r.o.buy _).side r.o.buy).map (·.o) = lineOf r.o.buy (b.rest ++ [r.o])
    rw [side_put, lineOf_snoc, if_pos rfl, ins_map, h.side]
  · show ((m.put r.o.buy _).side (!r.o.buy)).map (·.o) = lineOf (!r.o.buy) (b.rest ++ [r.o])
    rw [side_put_ne, lineOf_snoc, if_neg (by cases r.o.buy <;> simp), h.side]
  · show (m.put _ _).waits.map (·.o) = b.stops
    rw [put_waits, h.waits]
  · show (m.put _ _).last = b.last
    rw [put_last, h.last]
  · show (m.put _ _).auc = b.auction
    rw [put_auc, h.auc]
structure Came (r : R) (m : M) (b : Book) : Prop where
  rel : Rel (comeM r m).1 (come r.o b).1
  ev : (comeM r m).2 = (come r.o b).2
  stops : (come r.o b).1.stops = b.stops
  waits : (comeM r m).1.waits = m.waits
  auc : (come r.o b).1.auction = b.auction
  ids : ((come r.o b).1.rest.map (·.id)).Sublist (b.rest.map (·.id) ++ [r.o.id])
  good : Good (come r.o b).1
theorem came {r : R} {m : M} {b : Book} (h : Rel m b) (nd : Nd b) (g : Good b) (f : Fine r.o b) : Came r m b := by
  have sub0 : (b.rest.map (·.id)).Sublist (b.rest.map (·.id) ++ [r.o.id]) := List.sublist_append_left _ _
  by_cases h3 : r.o.kind = 3 ∧ readyM r (m.side (!r.o.buy)) < r.o.amount
  · have e1 : comeM r m = (m, [.ended r.o.id 3 r.o.price r.o.amount]) := if_pos h3
    have e2 : come r.o b = (b, [.ended r.o.id 3 r.o.price r.o.amount]) := by
      rw [ready_eq h] at h3
      exact if_pos h3
    refine ⟨?_, ?_, ?_, ?_, ?_, ?_, ?_⟩ <;> (try rw [e1]) <;> (try rw [e2])
    · exact h
    · exact sub0
    · exact g
  have h3' : ¬ (r.o.kind = 3 ∧ ready r.o b < r.o.amount) := by
    rw [← ready_eq h]
    exact h3
  by_cases h4 : r.o.kind = 4 ∧ headTakes r (m.side (!r.o.buy)) = true
  · have e1 : comeM r m = (m, [.ended r.o.id 4 r.o.price r.o.amount]) := by
      unfold comeM
      rw [if_neg h3, if_pos h4]
    have e2 : come r.o b = (b, [.ended r.o.id 4 r.o.price r.o.amount]) := by
      have h4' := And.intro h4.1 ((head_eq h r).mp h4.2)
      unfold come
      rw [if_neg h3', if_pos h4']
    refine ⟨?_, ?_, ?_, ?_, ?_, ?_, ?_⟩ <;> (try rw [e1]) <;> (try rw [e2])
    · exact h
    · exact sub0
    · exact g
  have h4' : ¬ (r.o.kind = 4 ∧ ((best (!r.o.buy) b.rest).map fun x => takes r.o x.price) = some true) := by
    rw [← head_eq h]
    exact h4
  have e1 : comeM r m = ((settleM (tradeM r m).1 (tradeM r m).2.1).1, (tradeM r m).2.2 ++ (settleM (tradeM r m).1 (tradeM r m).2.1).2) := by
    unfold comeM
    rw [if_neg h3, if_neg h4]
  have hl : (m.side (!r.o.buy)).length < b.rest.length + 1 := by
    have e := congrArg List.length (h.side (!r.o.buy))
    rw [List.length_map, (lineOf_perm (!r.o.buy) b.rest).length_eq] at e
    have := List.length_filter_le (fun o : Order => o.buy == !r.o.buy) b.rest
    omega
  have X := met (m.side (!r.o.buy)) (b.rest.length + 1) r b (h.side _) hl (nd_rest nd)
  have ela : m.last = b.last := h.last
  have e2 : come r.o b = (let x := meet (b.rest.length + 1) r.o b
    if x.1.amount = 0 then (x.2.1, x.2.2)
    else if r.o.kind = 0 ∨ r.o.kind = 4 then ({ x.2.1 with rest := x.2.1.rest ++ [{ x.1 with kind := 0 }] }, x.2.2 ++ [.rests r.o.id r.o.price x.1.amount])
    else (x.2.1, x.2.2 ++ [.ended r.o.id 2 r.o.price x.1.amount])) := by
    unfold come
    rw [if_neg h3', if_neg h4']
  have eT : tradeM r m = ((trd r (m.side (!r.o.buy)) b.last).1, (m.put (!r.o.buy) (trd r (m.side (!r.o.buy)) b.last).2.1).at (trd r (m.side (!r.o.buy)) b.last).2.2.1, (trd r (m.side (!r.o.buy)) b.last).2.2.2) := by
    unfold tradeM
    rw [ela]
  have Xo := X.o
  have Xe := X.ev
  have Xl := X.line
  have Xw := X.own
  have Xs := X.stops
  have Xla := X.last
  have Xa := X.auc
  have Xi := X.ids
  have Xk := X.like
  obtain ⟨s1, s2, s3, s4, s5⟩ := X.same
  clear X
  generalize meet (b.rest.length + 1) r.o b = x at Xo Xe Xl Xw Xs Xla Xa Xi Xk e2
  generalize trd r (m.side (!r.o.buy)) b.last = y at Xo Xe Xl Xla s1 s2 s3 s4 s5 eT
  obtain ⟨xo, xb, xe⟩ := x
  obtain ⟨yr, yl, yla, ye⟩ := y
  simp only at Xo Xe Xl Xw Xs Xla Xa Xi Xk e2 s1 s2 s3 s4 s5 eT
  subst Xo Xe
  have eb : yr.o.buy = r.o.buy := by rw [s4]
  have ei : yr.o.id = r.o.id := by rw [s4]
  have ek : yr.o.kind = r.o.kind := by rw [s4]
  have ep : yr.o.price = r.o.price := by rw [s4]
  -- the book behind the trading
  have R1 : Rel ((m.put (!r.o.buy) yl).at yla) xb := by
    refine Rel.mk_side (!r.o.buy) ?_ ?_ ?_ ?_ ?_
    · show ((m.put (!r.o.buy) yl).side (!r.o.buy)).map (·.o) = _
      rw [side_put, Xl]
    · show ((m.put (!r.o.buy) yl).side (!(!r.o.buy))).map (·.o) = _
      rw [side_put_ne, Bool.not_not, h.side, Xw]
    · show (m.put (!r.o.buy) yl).waits.map (·.o) = _
      rw [put_waits, h.waits, Xs]
    · exact Xla.symm
    · show (m.put (!r.o.buy) yl).auc = _
      rw [put_auc, h.auc, Xa]
  have g1 : Good xb := by
    refine ⟨fun o ho => ?_, fun o ho => g.stops o (Xs ▸ ho)⟩
    obtain ⟨p, hp, q1, q2, q3, _⟩ := Xk o ho
    have := g.rest p hp
    rw [q1, q2, q3]
    exact this
  by_cases hz : yr.o.amount = 0
  · have e3 : come r.o b = (xb, xe) := by
      rw [e2]
      exact if_pos hz
    have e4 : comeM r m = (((m.put (!r.o.buy) yl).at yla), xe) := by
      rw [e1, eT]
      simp only [settleM, hz, if_true, List.append_nil]
    refine ⟨?_, ?_, ?_, ?_, ?_, ?_, ?_⟩ <;> (try rw [e3]) <;> (try rw [e4])
    · exact R1
    · exact Xs
    · exact put_waits _ _ _
    · exact Xa
    · exact Xi.trans sub0
    · exact g1
  by_cases hk : r.o.kind = 0 ∨ r.o.kind = 4
  · have e3 : come r.o b = ({ xb with rest := xb.rest ++ [(zeroK yr).o] }, xe ++ [.rests r.o.id r.o.price yr.o.amount]) := by
      rw [e2]
      show (if yr.o.amount = 0 then _ else _) = _
      rw [if_neg hz]
      exact if_pos hk
    have e4 : comeM r m = (restM (zeroK yr) ((m.put (!r.o.buy) yl).at yla), xe ++ [.rests r.o.id r.o.price yr.o.amount]) := by
      rw [e1, eT]
      simp only [settleM, hz, if_false, ek, hk, if_true, ei, ep]
    refine ⟨?_, ?_, ?_, ?_, ?_, ?_, ?_⟩ <;> (try rw [e3]) <;> (try rw [e4])
    · exact rel_rest R1 (zeroK yr)
    · exact Xs
    · show (M.put _ _ _).waits = m.waits
      rw [put_waits]
      exact put_waits _ _ _
    · exact Xa
    · show ((xb.rest ++ [(zeroK yr).o]).map (·.id)).Sublist _
      rw [List.map_append]
      refine Xi.append ?_
      show [yr.o.id].Sublist [r.o.id]
      rw [ei]
      exact List.Sublist.refl _
    · refine ⟨fun o ho => ?_, g1.stops⟩
      rcases List.mem_append.mp ho with ho | ho
      · exact g1.rest o ho
      · rw [List.mem_singleton.mp ho]
        refine ⟨rfl, ?_, ?_⟩
        · show 1 ≤ yr.o.id
          rw [ei]
          exact f.id
        · show 1 ≤ yr.o.price
          rw [ep]
          exact f.price (by omega)
  · have e3 : come r.o b = (xb, xe ++ [.ended r.o.id 2 r.o.price yr.o.amount]) := by
      rw [e2]
      show (if yr.o.amount = 0 then _ else _) = _
      rw [if_neg hz]
      exact if_neg hk
    have e4 : comeM r m = (((m.put (!r.o.buy) yl).at yla), xe ++ [.ended r.o.id 2 r.o.price yr.o.amount]) := by
      rw [e1, eT]
      simp only [settleM, hz, if_false, ek, hk, ei, ep]
    refine ⟨?_, ?_, ?_, ?_, ?_, ?_, ?_⟩ <;> (try rw [e3]) <;> (try rw [e4])
    · exact R1
    · exact Xs
    · exact put_waits _ _ _
    · exact Xa
    · exact Xi.trans sub0
    · exact g1
end SB
namespace SB
open Sd17
def wakeO (o : Order) : Order := { o with kind := if o.kind = 5 then 1 else 0 }
theorem map_wake (l : List R) : (l.map wake).map (·.o) = (l.map (·.o)).map wakeO := by
  rw [List.map_map, List.map_map]
  rfl
theorem now_eq {m : M} {b : Book} (h : Rel m b) : (nowM m).map (·.o) = b.stops.filter fun o => pulls o b.last := by
  unfold nowM
  rw [← h.waits, h.last, List.filter_map]
  rfl
theorem off_rel {m : M} {b : Book} (h : Rel m b) : Rel (offM m) { b with stops := b.stops.filter fun o => !pulls o b.last } := by
  refine ⟨h.buys, h.sells, ?_, h.last, h.auc⟩
  show (m.waits.filter _).map (·.o) = _
  rw [← h.waits, h.last, List.filter_map]
  rfl
theorem told_eq {m : M} {b : Book} (h : Rel m b) : trigE m = (b.stops.filter fun o => pulls o b.last).map fun o => Ev.triggered o.id b.last := by
  unfold trigE
  rw [← now_eq h, List.map_map, h.last]
  rfl
theorem loop_nil (k : Nat) (m : M) : loopM k [] m = (m, []) := by cases k <;> rfl
def Stopish (o : Order) : Prop := (o.kind = 5 ∨ o.kind = 6) ∧ 1 ≤ o.id ∧ (o.kind = 6 → 1 ≤ o.price) ∧ (o.kind = 5 → o.price = 0)
theorem part_perm (p : Order → Bool) (l : List Order) : (l.filter p ++ l.filter fun o => !p o).Perm l := by
  induction l with
  | nil => exact List.Perm.refl _
  | cons a l ih =>
    by_cases h : p a = true
    · rw [List.filter_cons_of_pos h, List.filter_cons_of_neg (by simp [h])]
      exact ih.cons a
    · rw [List.filter_cons_of_neg h, List.filter_cons_of_pos (by simp [h])]
      exact List.perm_middle.trans (ih.cons a)
structure Done (m' : M) (e : List Ev) (b' : Book) (e' : List Ev) (auc : Bool) (n : Nat) : Prop where
  rel : Rel m' b'
  ev : e = e'
  good : Good b'
  nd : Nd b'
  auc : b'.auction = auc
  cnt : b'.rest.length + b'.stops.length ≤ n
theorem cascade_rel : ∀ (k : Nat) (q : List Order) (F : List R) (m : M) (b : Book), Rel m b → Good b → (∀ o ∈ q, Stopish o) → ((b.rest ++ b.stops ++ q).map (·.id)).Nodup →
    F.map (·.o) = q.map wakeO → F.length + m.waits.length ≤ k →
    Done (loopM k (F ++ (nowM m).map wake) (offM m)).1 (trigE m ++ (loopM k (F ++ (nowM m).map wake) (offM m)).2) (cascade (k + 1) q b).1 (cascade (k + 1) q b).2 b.auction (b.rest.length + b.stops.length + q.length)
  | k, q, F, m, b, h, g, sq, nd, hF, hk => by
    have hb1 := off_rel h
    have en := now_eq h
    have et := told_eq h
    have eq1 : (F ++ (nowM m).map wake).map (·.o) = (q ++ b.stops.filter fun o => pulls o b.last).map wakeO := by
      rw [List.map_append, map_wake, en, hF, List.map_append]
    have ec : cascade (k + 1) q b = (match q ++ b.stops.filter fun o => pulls o b.last with
      | [] => ({ b with stops := b.stops.filter fun o => !pulls o b.last }, (b.stops.filter fun o => pulls o b.last).map fun o => Ev.triggered o.id b.last)
      | o :: r =>
        let x := come { o with kind := if o.kind = 5 then 1 else 0 } { b with stops := b.stops.filter fun o => !pulls o b.last }
        let y := cascade k r x.1
        (y.1, ((b.stops.filter fun o => pulls o b.last).map fun o => Ev.triggered o.id b.last) ++ (x.2 ++ y.2))) := rfl
    have nd2 : ((b.rest ++ (b.stops.filter fun o => !pulls o b.last) ++ (q ++ b.stops.filter fun o => pulls o b.last)).map (·.id)).Nodup := by
      refine (List.Perm.nodup_iff (List.Perm.map _ ?_)).mp nd
      have p1 := part_perm (fun o => pulls o b.last) b.stops
      refine List.Perm.symm ?_
      rw [List.append_assoc, List.append_assoc]
      refine List.Perm.append_left _ ?_
      refine ((List.perm_append_comm (l₁ := q)).append_left _).trans ?_
      rw [← List.append_assoc]
      exact ((List.perm_append_comm).trans p1).append_right q
    have cnt1 : (b.stops.filter fun o => !pulls o b.last).length + (b.stops.filter fun o => pulls o b.last).length = b.stops.length := by
      have := (part_perm (fun o => pulls o b.last) b.stops).length_eq
      rw [List.length_append] at this
      omega
    have sq2 : ∀ o ∈ q ++ b.stops.filter (fun o => pulls o b.last), Stopish o := fun o ho => by
      rcases List.mem_append.mp ho with ho | ho
      · exact sq o ho
      · exact g.stops o (List.mem_filter.mp ho).1
    have lw : m.waits.length = b.stops.length := by rw [← h.waits, List.length_map]
    have lenF : (F ++ (nowM m).map wake).length + (offM m).waits.length = F.length + m.waits.length := by
      have e1 : (nowM m).length = (b.stops.filter fun o => pulls o b.last).length := by rw [← en, List.length_map]
      have e2 : (offM m).waits.length = (b.stops.filter fun o => !pulls o b.last).length := by
        have := congrArg List.length hb1.waits
        rwa [List.length_map] at this
      rw [List.length_append, List.length_map, e1, e2, lw]
      omega
    have lq : F.length = q.length := by
      have := congrArg List.length hF
      rwa [List.length_map, List.length_map] at this
    generalize hG : F ++ (nowM m).map wake = G at eq1 lenF
    generalize hq : q ++ (b.stops.filter fun o => pulls o b.last) = qq at eq1 nd2 sq2 ec
    have lqq : qq.length = q.length + (b.stops.filter fun o => pulls o b.last).length := by rw [← hq, List.length_append]
    cases qq with
    | nil =>
      have eG : G = [] := by
        cases G with
        | nil => rfl
        | cons r G => cases eq1
      subst eG
      rw [loop_nil, ec]
      refine ⟨hb1, ?_, ⟨g.rest, fun o ho => g.stops o (List.mem_filter.mp ho).1⟩, ?_, rfl, ?_⟩
      · simp only [List.append_nil]
        exact et
      · unfold Nd
        rw [List.append_nil] at nd2
        exact nd2
      · show b.rest.length + (b.stops.filter fun o => !pulls o b.last).length ≤ _
        have := List.length_filter_le (fun o => !pulls o b.last) b.stops
        omega
    | cons o rst =>
      cases G with
      | nil => cases eq1
      | cons r G =>
        rw [List.map_cons, List.map_cons] at eq1
        obtain ⟨er, eG⟩ := List.cons.inj eq1
        have so := sq2 o (List.mem_cons_self ..)
        cases k with
        | zero =>
          rw [List.length_cons] at lenF
          omega
        | succ j =>
          have nd3 : (((b.rest ++ [o]) ++ (b.stops.filter fun o => !pulls o b.last) ++ rst).map (·.id)).Nodup := by
            refine (List.Perm.nodup_iff (List.Perm.map _ ?_)).mp nd2
            rw [List.append_assoc, List.append_assoc, List.append_assoc]
            refine List.Perm.append_left _ ?_
            exact List.perm_middle
          have nd4 : Nd { b with stops := b.stops.filter fun o => !pulls o b.last } := by
            unfold Nd
            rw [List.map_append] at nd2
            exact (List.nodup_append.mp nd2).1
          have fo : Fine r.o { b with stops := b.stops.filter fun o => !pulls o b.last } := by
            rw [er]
            refine ⟨fun hm => ?_, so.2.1, ?_, ?_⟩
            · rw [List.map_append] at nd2
              exact (List.nodup_append.mp nd2).2.2 o.id hm o.id (by simp) rfl
            · show (if o.kind = 5 then 1 else 0) ≤ 4
              split <;> omega
            · show (if o.kind = 5 then 1 else 0) ≠ 1 → 1 ≤ o.price
              intro z
              have : o.kind = 6 := by
                rcases so.1 with k5 | k6
                · rw [if_pos k5] at z
                  omega
                · exact k6
              exact so.2.2.1 this
          have C := came hb1 nd4 ⟨g.rest, fun o ho => g.stops o (List.mem_filter.mp ho).1⟩ fo
          have ec2 : cascade (j + 1 + 1) q b = ((cascade (j + 1) rst (come r.o { b with stops := b.stops.filter fun o => !pulls o b.last }).1).1,
              ((b.stops.filter fun o => pulls o b.last).map fun o => Ev.triggered o.id b.last) ++ ((come r.o { b with stops := b.stops.filter fun o => !pulls o b.last }).2 ++ (cascade (j + 1) rst (come r.o { b with stops := b.stops.filter fun o => !pulls o b.last }).1).2)) := by
            rw [er]
            exact ec
          have ids5 : (((come r.o { b with stops := b.stops.filter fun o => !pulls o b.last }).1.rest ++ (come r.o { b with stops := b.stops.filter fun o => !pulls o b.last }).1.stops ++ rst).map (·.id)).Nodup := by
            refine List.Sublist.nodup ?_ nd3
            rw [C.stops, List.map_append, List.map_append, List.map_append (l₁ := _ ++ [o] ++ _), List.map_append (l₁ := _ ++ [o])]
            refine List.Sublist.append (List.Sublist.append ?_ (List.Sublist.refl _)) (List.Sublist.refl _)
            have := C.ids
            have e9 : r.o.id = o.id := by
              rw [er]
              rfl
            rw [e9] at this
            rw [List.map_append]
            exact this
          have ih := cascade_rel j rst G (comeM r (offM m)).1 (come r.o { b with stops := b.stops.filter fun o => !pulls o b.last }).1 C.rel C.good (fun x hx => sq2 x (List.mem_cons_of_mem _ hx)) ids5 eG (by
            rw [C.waits]
            rw [List.length_cons] at lenF
            omega)
          have el : loopM (j + 1) (r :: G) (offM m) = ((loopM j (G ++ (nowM (comeM r (offM m)).1).map wake) (offM (comeM r (offM m)).1)).1, (comeM r (offM m)).2 ++ (trigE (comeM r (offM m)).1 ++ (loopM j (G ++ (nowM (comeM r (offM m)).1).map wake) (offM (comeM r (offM m)).1)).2)) := rfl
          rw [el, ec2]
          refine ⟨ih.rel, ?_, ih.good, ih.nd, ih.auc.trans C.auc, ?_⟩
          · show trigE m ++ _ = _ ++ (_ ++ _)
            rw [ih.ev, C.ev, et]
          · refine Nat.le_trans ih.cnt ?_
            have := C.ids.length_le
            rw [List.length_map, List.length_append, List.length_map, List.length_singleton] at this
            have e5 : (come r.o { b with stops := b.stops.filter fun o => !pulls o b.last }).1.stops.length = (b.stops.filter fun o => !pulls o b.last).length := by rw [C.stops]
            rw [e5]
            rw [List.length_cons] at lqq
            have t1 : (come r.o { b with stops := b.stops.filter fun o => !pulls o b.last }).1.rest.length ≤ b.rest.length + 1 := this
            omega
/-- stops are triggered -/
theorem stops_rel {m : M} {b : Book} (h : Rel m b) (g : Good b) (nd : Nd b) : Done (stopsM m).1 (stopsM m).2 (cascade (b.stops.length + 1) [] b).1 (cascade (b.stops.length + 1) [] b).2 b.auction (b.rest.length + b.stops.length) := by
  have lw : m.waits.length = b.stops.length := by rw [← h.waits, List.length_map]
  have X := cascade_rel b.stops.length [] [] m b h g (fun o ho => by cases ho) (by rw [List.append_nil]; exact nd) rfl (by rw [List.length_nil]; omega)
  unfold stopsM
  rw [lw]
  exact X
/-! ### an auction's trading -/
theorem step_line {rest : List Order} {buy : Bool} {x : Order} {l : List Order} (n : Nat) (nd : (rest.map (·.id)).Nodup) (e : lineOf buy rest = x :: l) :
    lineOf buy (left x.id n rest) = (if n = 0 then l else { x with amount := n } :: l) ∧ lineOf (!buy) (left x.id n rest) = lineOf (!buy) rest := by
  by_cases h : n = 0
  · have := gone_line nd e
    unfold left
    rw [if_pos h, if_pos h]
    exact this
  · rw [if_neg h]
    exact left_line nd e h
theorem cross_rel (price : Nat) : ∀ (k : Nat) (m : M) (b : Book), Rel m b → Good b → Nd b →
    Done (crossM price k m).1 (crossM price k m).2 (cross price k b).1 (cross price k b).2 b.auction (b.rest.length + b.stops.length) ∧ (crossM price k m).1.waits = m.waits
  | 0, m, b, h, g, nd => ⟨⟨h, rfl, g, nd, rfl, Nat.le_refl _⟩, rfl⟩
  | k + 1, m, b, h, g, nd => by
    have hb := rel_best h true
    have hs := rel_best h false
    have stop : ∀ {e : crossM price (k + 1) m = (m, [])} {e2 : cross price (k + 1) b = (b, [])}, Done (crossM price (k + 1) m).1 (crossM price (k + 1) m).2 (cross price (k + 1) b).1 (cross price (k + 1) b).2 b.auction (b.rest.length + b.stops.length) ∧ (crossM price (k + 1) m).1.waits = m.waits := by
      intro e e2
      rw [e, e2]
      exact ⟨⟨h, rfl, g, nd, rfl, Nat.le_refl _⟩, rfl⟩
    cases e1 : m.buys with
    | nil =>
      refine stop (e := ?_) (e2 := ?_)
      · simp only [crossM, e1]
      · have : best true b.rest = none := by
          rw [hb]
          show m.buys.head?.map _ = none
          rw [e1]
          rfl
        simp only [cross, this]
    | cons x bs =>
      cases e2 : m.sells with
      | nil =>
        refine stop (e := ?_) (e2 := ?_)
        · simp only [crossM, e1, e2]
        · have : best false b.rest = none := by
            rw [hs]
            show m.sells.head?.map _ = none
            rw [e2]
            rfl
          simp only [cross, this]
          cases best true b.rest <;> rfl
      | cons y ss =>
        have b1 : best true b.rest = some x.o := by
          rw [hb]
          show m.buys.head?.map _ = _
          rw [e1]
          rfl
        have b2 : best false b.rest = some y.o := by
          rw [hs]
          show m.sells.head?.map _ = _
          rw [e2]
          rfl
        by_cases hp : x.o.price < price ∨ price < y.o.price
        · refine stop (e := ?_) (e2 := ?_)
          · simp only [crossM, e1, e2, hp, if_true]
          · simp only [cross, b1, b2, hp, if_true]
        · generalize hn : min x.o.amount y.o.amount = n
          have l1 : lineOf true b.rest = x.o :: bs.map (·.o) := by rw [← h.buys, e1, List.map_cons]
          have l2 : lineOf false b.rest = y.o :: ss.map (·.o) := by rw [← h.sells, e2, List.map_cons]
          have ndr := nd_rest nd
          obtain ⟨a1, a2⟩ := step_line (x.o.amount - n) ndr l1
          have nd1 : ((left x.o.id (x.o.amount - n) b.rest).map (·.id)).Nodup := List.Sublist.nodup (left_ids _ _ _) ndr
          obtain ⟨c1, c2⟩ := step_line (y.o.amount - n) nd1 (a2.trans l2)
          have mx := lineOf_mem.mp (show x.o ∈ lineOf true b.rest by rw [l1]; exact List.mem_cons_self ..)
          have my := lineOf_mem.mp (show y.o ∈ lineOf false b.rest by rw [l2]; exact List.mem_cons_self ..)
          have lk1 := left_like ndr mx.1 (n := x.o.amount - n) (Nat.sub_le _ _)
          have my2 := lineOf_mem.mp (show y.o ∈ lineOf false (left x.o.id (x.o.amount - n) b.rest) by
            rw [show lineOf false (left x.o.id (x.o.amount - n) b.rest) = lineOf false b.rest from a2, l2]
            exact List.mem_cons_self ..)
          have lk2 := (left_like nd1 my2.1 (n := y.o.amount - n) (Nat.sub_le _ _)).trans lk1
          have ids2 : ((left y.o.id (y.o.amount - n) (left x.o.id (x.o.amount - n) b.rest)).map (·.id)).Sublist (b.rest.map (·.id)) := (left_ids _ _ _).trans (left_ids _ _ _)
          have h2 : Rel { m with buys := if x.o.amount - n = 0 then bs else setAm x (x.o.amount - n) :: bs, sells := if y.o.amount - n = 0 then ss else setAm y (y.o.amount - n) :: ss, last := price }
              { b with rest := left y.o.id (y.o.amount - n) (left x.o.id (x.o.amount - n) b.rest), last := price } := by
            refine ⟨?_, ?_, h.waits, rfl, h.auc⟩
            · show (if x.o.amount - n = 0 then bs else setAm x (x.o.amount - n) :: bs).map (·.o) = lineOf true _
              refine Eq.trans ?_ (show lineOf true (left y.o.id (y.o.amount - n) (left x.o.id (x.o.amount - n) b.rest)) = lineOf true (left x.o.id (x.o.amount - n) b.rest) from c2).symm
              rw [a1]
              split <;> rfl
            · show (if y.o.amount - n = 0 then ss else setAm y (y.o.amount - n) :: ss).map (·.o) = lineOf false _
              refine Eq.trans ?_ (show lineOf false (left y.o.id (y.o.amount - n) (left x.o.id (x.o.amount - n) b.rest)) = _ from c1).symm
              split <;> rfl
          have nd2 : Nd { b with rest := left y.o.id (y.o.amount - n) (left x.o.id (x.o.amount - n) b.rest), last := price } := by
            unfold Nd at nd ⊢
            rw [List.map_append] at nd ⊢
            exact List.Sublist.nodup (ids2.append (List.Sublist.refl _)) nd
          have g2 : Good { b with rest := left y.o.id (y.o.amount - n) (left x.o.id (x.o.amount - n) b.rest), last := price } := by
            refine ⟨fun o ho => ?_, g.stops⟩
            obtain ⟨p, hp, q1, q2, q3, _⟩ := lk2 o ho
            have := g.rest p hp
            rw [q1, q2, q3]
            exact this
          obtain ⟨ih, iw⟩ := cross_rel price k _ _ h2 g2 nd2
          have em : crossM price (k + 1) m = ((crossM price k { m with buys := if x.o.amount - n = 0 then bs else setAm x (x.o.amount - n) :: bs, sells := if y.o.amount - n = 0 then ss else setAm y (y.o.amount - n) :: ss, last := price }).1,
              .trade x.o.id y.o.id price n (y.o.amount - n) :: (crossM price k { m with buys := if x.o.amount - n = 0 then bs else setAm x (x.o.amount - n) :: bs, sells := if y.o.amount - n = 0 then ss else setAm y (y.o.amount - n) :: ss, last := price }).2) := by
            simp only [crossM, e1, e2, hp, if_false, hn]
          have es : cross price (k + 1) b = ((cross price k { b with rest := left y.o.id (y.o.amount - n) (left x.o.id (x.o.amount - n) b.rest), last := price }).1,
              .trade x.o.id y.o.id price n (y.o.amount - n) :: (cross price k { b with rest := left y.o.id (y.o.amount - n) (left x.o.id (x.o.amount - n) b.rest), last := price }).2) := by
            simp only [cross, b1, b2, hp, if_false, hn]
          rw [em, es]
          refine ⟨⟨ih.rel, congrArg _ ih.ev, ih.good, ih.nd, ih.auc, Nat.le_trans ih.cnt ?_⟩, iw⟩
          have := ids2.length_le
          rw [List.length_map, List.length_map] at this
          show (left _ _ _).length + b.stops.length ≤ _
          omega
end SB
namespace SB
open Sd17
/-! ### the price of an auction -/
def dem (l : List R) (p : Nat) : Nat := ((l.filter fun r => decide (p ≤ r.o.price)).map fun r => r.o.amount).sum
def sup (l : List R) (p : Nat) : Nat := ((l.filter fun r => decide (r.o.price ≤ p)).map fun r => r.o.amount).sum
theorem dem_eq {m : M} {b : Book} (h : Rel m b) (p : Nat) : demand b p = dem m.buys p := by
  have e : dem m.buys p = (((lineOf true b.rest).filter fun o => decide (p ≤ o.price)).map fun o => o.amount).sum := by
    unfold dem
    rw [← h.buys, List.filter_map, List.map_map]
    rfl
  rw [e]
  unfold demand
  refine sum_perm (List.Perm.map _ ?_)
  refine List.Perm.symm (((lineOf_perm true b.rest).filter _).trans ?_)
  rw [List.filter_filter]
  refine List.Perm.of_eq (List.filter_congr fun o _ => ?_)
  cases o.buy <;> simp
theorem sup_eq {m : M} {b : Book} (h : Rel m b) (p : Nat) : supply b p = sup m.sells p := by
  have e : sup m.sells p = (((lineOf false b.rest).filter fun o => decide (o.price ≤ p)).map fun o => o.amount).sum := by
    unfold sup
    rw [← h.sells, List.filter_map, List.map_map]
    rfl
  rw [e]
  unfold supply
  refine sum_perm (List.Perm.map _ ?_)
  refine List.Perm.symm (((lineOf_perm false b.rest).filter _).trans ?_)
  rw [List.filter_filter]
  refine List.Perm.of_eq (List.filter_congr fun o _ => ?_)
  cases o.buy <;> simp
def vK (m : M) (p : Nat) : Nat := min (dem m.buys p) (sup m.sells p)
def sK (m : M) (p : Nat) : Nat := apart (dem m.buys p) (sup m.sells p)
def nK (m : M) (p : Nat) : Nat := if m.last = 0 then 0 else apart p m.last
def cmpK (m : M) (p q : Nat) : Bool :=
  if vK m p ≠ vK m q then decide (vK m q < vK m p) else if sK m p ≠ sK m q then decide (sK m p < sK m q) else if nK m p ≠ nK m q then decide (nK m p < nK m q) else decide (p < q)
theorem finer_eq {m : M} {b : Book} (h : Rel m b) (p q : Nat) : finer b p q = cmpK m p q := by
  unfold finer cmpK vK sK nK
  simp only [dem_eq h, sup_eq h, h.last]
theorem cmp_t1 {m : M} {q a x : Nat} (h1 : cmpK m q a = true) (h2 : cmpK m q x = false) : cmpK m a x = false := by
  unfold cmpK at *
  generalize vK m q = v1 at *
  generalize vK m a = v2 at *
  generalize vK m x = v3 at *
  generalize sK m q = s1 at *
  generalize sK m a = s2 at *
  generalize sK m x = s3 at *
  generalize nK m q = n1 at *
  generalize nK m a = n2 at *
  generalize nK m x = n3 at *
  repeat' split at h1
  all_goals repeat' split at h2
  all_goals repeat' split
  all_goals simp only [decide_eq_true_eq, decide_eq_false_iff_not] at *
  all_goals omega
theorem cmp_t2 {m : M} {q a x : Nat} (h1 : cmpK m q a = false) (h2 : cmpK m a x = false) : cmpK m q x = false := by
  unfold cmpK at *
  generalize vK m q = v1 at *
  generalize vK m a = v2 at *
  generalize vK m x = v3 at *
  generalize sK m q = s1 at *
  generalize sK m a = s2 at *
  generalize sK m x = s3 at *
  generalize nK m q = n1 at *
  generalize nK m a = n2 at *
  generalize nK m x = n3 at *
  repeat' split at h1
  all_goals repeat' split at h2
  all_goals repeat' split
  all_goals simp only [decide_eq_true_eq, decide_eq_false_iff_not] at *
  all_goals omega
theorem cmp_one {m : M} {x y : Nat} (h1 : cmpK m x y = false) (h2 : cmpK m y x = false) : x = y := by
  unfold cmpK at *
  repeat' split at h1
  all_goals repeat' split at h2
  all_goals simp only [decide_eq_true_eq, decide_eq_false_iff_not] at *
  all_goals omega
theorem cmp_v {m : M} {x y : Nat} (h1 : cmpK m x y = false) : vK m x ≤ vK m y := by
  unfold cmpK at *
  repeat' split at h1
  all_goals simp only [decide_eq_true_eq, decide_eq_false_iff_not] at *
  all_goals omega
def pick (m : M) (a : Option Nat) (q : Nat) : Option Nat := match a with
  | none => some q
  | some x => if cmpK m q x = true then some q else some x
theorem pick_some (m : M) : ∀ (L : List Nat) (a : Nat), ∃ x, L.foldl (pick m) (some a) = some x ∧ (x = a ∨ x ∈ L) ∧ cmpK m a x = false ∧ ∀ q ∈ L, cmpK m q x = false
  | [], a => ⟨a, rfl, .inl rfl, by unfold cmpK; simp, fun q hq => by cases hq⟩
  | q :: L, a => by
    rw [List.foldl_cons]
    by_cases h : cmpK m q a = true
    · have e : pick m (some a) q = some q := if_pos h
      rw [e]
      obtain ⟨x, e1, e2, e3, e4⟩ := pick_some m L q
      refine ⟨x, e1, ?_, cmp_t1 h e3, fun z hz => ?_⟩
      · rcases e2 with rfl | e2
        · exact .inr (List.mem_cons_self ..)
        · exact .inr (List.mem_cons_of_mem _ e2)
      · rcases List.mem_cons.mp hz with rfl | hz
        · exact e3
        · exact e4 z hz
    · have e : pick m (some a) q = some a := if_neg h
      rw [e]
      obtain ⟨x, e1, e2, e3, e4⟩ := pick_some m L a
      refine ⟨x, e1, ?_, e3, fun z hz => ?_⟩
      · rcases e2 with rfl | e2
        · exact .inl rfl
        · exact .inr (List.mem_cons_of_mem _ e2)
      · rcases List.mem_cons.mp hz with rfl | hz
        · exact cmp_t2 (by simpa using h) e3
        · exact e4 z hz
/-- the program's own: nothing traded is never taken -/
def pickP (m : M) (a : Option Nat) (q : Nat) : Option Nat := match a with
  | none => if vK m q = 0 then none else some q
  | some x => if cmpK m q x = true then some q else some x
theorem pickP_some (m : M) : ∀ (L : List Nat) (a : Nat), L.foldl (pickP m) (some a) = L.foldl (pick m) (some a)
  | [], a => rfl
  | q :: L, a => by
    rw [List.foldl_cons, List.foldl_cons]
    have e : pickP m (some a) q = pick m (some a) q := rfl
    rw [e]
    unfold pick
    simp only
    split
    · exact pickP_some m L q
    · exact pickP_some m L a
theorem pickP_none (m : M) : ∀ (L : List Nat), (L.foldl (pickP m) none = none ∧ ∀ q ∈ L, vK m q = 0) ∨ ∃ x, L.foldl (pickP m) none = some x ∧ x ∈ L ∧ vK m x ≠ 0 ∧ ∀ q ∈ L, cmpK m q x = false
  | [] => .inl ⟨rfl, fun q hq => by cases hq⟩
  | q :: L => by
    rw [List.foldl_cons]
    by_cases h : vK m q = 0
    · have e : pickP m none q = none := if_pos h
      rw [e]
      rcases pickP_none m L with ⟨e1, e2⟩ | ⟨x, e1, e2, e3, e4⟩
      · refine .inl ⟨e1, fun z hz => ?_⟩
        rcases List.mem_cons.mp hz with rfl | hz
        · exact h
        · exact e2 z hz
      · refine .inr ⟨x, e1, List.mem_cons_of_mem _ e2, e3, fun z hz => ?_⟩
        rcases List.mem_cons.mp hz with rfl | hz
        · unfold cmpK
          have : vK m z ≠ vK m x := by omega
          rw [if_pos this]
          simp
          omega
        · exact e4 z hz
    · have e : pickP m none q = some q := if_neg h
      rw [e, pickP_some]
      obtain ⟨x, e1, e2, e3, e4⟩ := pick_some m L q
      refine .inr ⟨x, e1, ?_, ?_, fun z hz => ?_⟩
      · rcases e2 with rfl | e2
        · exact List.mem_cons_self ..
        · exact List.mem_cons_of_mem _ e2
      · have := cmp_v e3
        omega
      · rcases List.mem_cons.mp hz with rfl | hz
        · exact e3
        · exact e4 z hz
def clearP (m : M) (ps : List Nat) : Nat := (ps.foldl (pickP m) none).getD 0
theorem clear_eq {m : M} {b : Book} (h : Rel m b) (ps : List Nat) (hp : ∀ p, p ∈ ps ↔ p ∈ (m.buys ++ m.sells).map fun r => r.o.price) : clearP m ps = (clearing b).getD 0 := by
  have hp2 : ∀ p, p ∈ ps ↔ p ∈ b.rest.map fun o => o.price := fun p => by
    have e : (m.buys ++ m.sells).map (fun r => r.o.price) = (lineOf true b.rest ++ lineOf false b.rest).map fun o => o.price := by
      rw [← h.buys, ← h.sells, ← List.map_append, List.map_map]
      rfl
    rw [hp, e]
    simp only [List.mem_map, List.mem_append, lineOf_mem]
    constructor
    · rintro ⟨o, ho, rfl⟩
      rcases ho with ho | ho
      · exact ⟨o, ho.1, rfl⟩
      · exact ⟨o, ho.1, rfl⟩
    · rintro ⟨o, ho, rfl⟩
      refine ⟨o, ?_, rfl⟩
      cases hb : o.buy
      · exact .inr ⟨ho, rfl⟩
      · exact .inl ⟨ho, rfl⟩
  have ec : clearing b = ((b.rest.map fun o => o.price).foldl (pick m) none).bind fun x => if vK m x = 0 then none else some x := by
    unfold clearing
    simp only [dem_eq h, sup_eq h]
    have e2 : (fun (a : Option Nat) (q : Nat) => match a with
      | none => some q
      | some x => if finer b q x = true then some q else some x) = pick m := by
      funext a q
      cases a with
      | none => rfl
      | some x =>
        show (if finer b q x = true then some q else some x) = _
        rw [finer_eq h]
        rfl
    show ((b.rest.map fun o => o.price).foldl (fun (a : Option Nat) (q : Nat) => match a with
      | none => some q
      | some x => if finer b q x = true then some q else some x) none).bind _ = _
    rw [e2]
    rfl
  rw [ec]
  unfold clearP
  generalize (b.rest.map fun o => o.price) = L at hp2
  cases L with
  | nil =>
    have : ps = [] := by
      cases ps with
      | nil => rfl
      | cons p ps => exact absurd ((hp2 p).mp (List.mem_cons_self ..)) (by simp)
    rw [this]
    rfl
  | cons a L =>
    obtain ⟨x, e1, e2, e3, e4⟩ := pick_some m L a
    have eL : (a :: L).foldl (pick m) none = some x := by
      rw [List.foldl_cons]
      exact e1
    have hx : x ∈ a :: L := by
      rcases e2 with rfl | e2
      · exact List.mem_cons_self ..
      · exact List.mem_cons_of_mem _ e2
    have hall : ∀ q ∈ a :: L, cmpK m q x = false := fun q hq => by
      rcases List.mem_cons.mp hq with rfl | hq
      · exact e3
      · exact e4 q hq
    rw [eL]
    show _ = (if vK m x = 0 then none else some x : Option Nat).getD 0
    rcases pickP_none m ps with ⟨p1, p2⟩ | ⟨y, p1, p2, p3, p4⟩
    · rw [p1, if_pos (p2 x ((hp2 x).mpr hx))]
    · rw [p1]
      have c1 := p4 x ((hp2 x).mpr hx)
      have c2 := hall y ((hp2 y).mp p2)
      have := cmp_one c1 c2
      subst this
      rw [if_neg p3]
end SB
namespace SB
open Sd17
/-! ### the calls -/
/-- an order's seven numbers as the program keeps them -/
structure W where
  n : Int
  w : Int
  s : Int
  k : Int
  p : Int
  m : Int
  t : Int
def R.w (r : R) : W := ⟨(r.o.id : Int), (r.o.who : Int), if r.o.buy = true then 0 else 1, (r.k : Int), (r.o.price : Int), (r.o.amount : Int), r.t⟩
def priced (k : Int) : Bool := (!decide (k = 1)) && (!decide (k = 5))
def stopK (k : Int) : Bool := decide (k = 5) || decide (k = 6)
def inR (z : Int) : Bool := decide (1 ≤ z) && decide (z ≤ 1000000)
def asTold (x : W) : Bool :=
  if decide (x.n < 1) || !(decide (1 ≤ x.w) && decide (x.w ≤ 255)) then false
  else if (!(decide (0 ≤ x.s) && decide (x.s ≤ 1))) || !(decide (0 ≤ x.k) && decide (x.k ≤ 6)) then false
  else if priced x.k && !inR x.p then false
  else if stopK x.k && !inR x.t then false
  else inR x.m
/-- as __init__ leaves it -/
def W.init (n w s k p m t : Int) : W := ⟨n, w, s, k, if priced k = true then p else 0, m, t⟩
def W.ord (x : W) : Order := ⟨x.n.toNat, x.w.toNat, decide (x.s = 0), x.k.toNat, x.p.toNat, x.m.toNat, if x.k.toNat < 5 then 0 else x.t.toNat⟩
def W.toR (x : W) (a : Nat) : R := ⟨a, x.ord, x.k.toNat, x.t⟩
def M.all (m : M) : List R := m.buys ++ m.sells ++ m.waits
def flat (e : List Ev) : List Int := (e.flatMap numbers).map fun (x : Nat) => (x : Int)
def ans (e : List Ev) : List Int := (e.length : Int) :: flat e
def arriveM (r : R) (m : M) : M × List Ev :=
  if m.auc = true then (restM r m, [.rests r.o.id r.o.price r.o.amount])
  else ((stopsM (comeM r m).1).1, (comeM r m).2 ++ (stopsM (comeM r m).1).2)
def putW (r : R) (m : M) : M := { m with waits := m.waits ++ [r] }
def waitM (r : R) (m : M) : M × List Ev := if m.auc = true then (putW r m, []) else stopsM (putW r m)
def orderStep (x : W) (a : Nat) (m : M) : M × List Int :=
  if asTold x = false ∨ (m.all.any fun r => decide ((r.o.id : Int) = x.n)) = true then (m, [-1])
  else if 1024 ≤ m.all.length then (m, [-2])
  else if m.auc = true ∧ x.k ≠ 0 ∧ stopK x.k = false then (m, [-2])
  else if stopK x.k = true then ((waitM (x.toR a) m).1, ans (waitM (x.toR a) m).2)
  else ((arriveM (x.toR a) m).1, ans (arriveM (x.toR a) m).2)
def delM (id : Nat) (m : M) : M := { m with buys := m.buys.filter fun r => r.o.id != id, sells := m.sells.filter fun r => r.o.id != id, waits := m.waits.filter fun r => r.o.id != id }
def cancelStep (z : Int) (m : M) : M × List Int := match m.all.find? fun r => decide ((r.o.id : Int) = z) with
  | none => (m, [-1])
  | some r => (delM r.o.id m, ans [.ended r.o.id 1 r.o.price r.o.amount])
def reR (id n : Nat) (r : R) : R := if r.o.id = id then setAm r n else r
def reM (id n : Nat) (m : M) : M := { m with buys := m.buys.map (reR id n), sells := m.sells.map (reR id n) }
def newR (r : R) (p n : Nat) : R := { r with o := { r.o with price := p, amount := n }, k := 0 }
def changeStep (z p n : Int) (m : M) : M × List Int := match (m.buys ++ m.sells).find? fun r => decide ((r.o.id : Int) = z) with
  | none => (m, [-1])
  | some r => if inR p = false ∨ inR n = false then (m, [-1])
    else if p = (r.o.price : Int) ∧ n ≤ (r.o.amount : Int) then (reM r.o.id n.toNat m, ans [.rests r.o.id p.toNat n.toNat])
    else ((arriveM (newR r p.toNat n.toNat) (delM r.o.id m)).1, ans (arriveM (newR r p.toNat n.toNat) (delM r.o.id m)).2)
def auctionM (ps : List Nat) (m : M) : M × List Ev :=
  let c := crossM (clearP m ps) (m.buys.length + m.sells.length + 1) m
  ((stopsM c.1).1, c.2 ++ (stopsM c.1).2)
def auctionStep (on : Int) (ps : List Nat) (m : M) : M × List Int :=
  if decide (on ≠ 0) = m.auc then (m, [-1])
  else if on ≠ 0 then ({ m with auc := true }, ans [])
  else ((auctionM ps { m with auc := false }).1, ans (auctionM ps { m with auc := false }).2)
def topP (l : List R) : Nat := match l with
  | [] => 0
  | r :: _ => r.o.price
def topA (l : List R) : Nat := ((l.filter fun r => decide (r.o.price = topP l)).map fun r => r.o.amount).sum
def lookStep (ps : List Nat) (m : M) : List Int := [0, (topP m.buys : Int), (topA m.buys : Int), (topP m.sells : Int), (topA m.sells : Int), (m.last : Int), ((if m.auc = true then clearP m ps else 0 : Nat) : Int)]
structure Fit (m : M) (b : Book) : Prop where
  rel : Rel m b
  good : Good b
  nd : Nd b
  cnt : b.rest.length + b.stops.length ≤ 1024
theorem Done.fit {m' : M} {e e' : List Ev} {b' : Book} {auc : Bool} {n : Nat} (d : Done m' e b' e' auc n) (h : n ≤ 1024) : Fit m' b' := ⟨d.rel, d.good, d.nd, Nat.le_trans d.cnt h⟩
theorem all_perm {m : M} {b : Book} (h : Rel m b) : (m.all.map (·.o)).Perm (b.rest ++ b.stops) := by
  unfold M.all
  rw [List.map_append, List.map_append, h.buys, h.sells, h.waits]
  refine List.Perm.append_right _ ?_
  refine ((lineOf_perm true b.rest).append (lineOf_perm false b.rest)).trans ?_
  have := part_perm (fun o => o.buy == true) b.rest
  refine (List.Perm.of_eq ?_).trans this
  congr 1
  refine List.filter_congr fun o _ => ?_
  cases o.buy <;> rfl
theorem all_len {m : M} {b : Book} (h : Rel m b) : m.all.length = b.rest.length + b.stops.length := by
  have := (all_perm h).length_eq
  rwa [List.length_map, List.length_append] at this
theorem lines_len {m : M} {b : Book} (h : Rel m b) : m.buys.length + m.sells.length = b.rest.length := by
  have h1 := all_len h
  have h2 : m.waits.length = b.stops.length := by rw [← h.waits, List.length_map]
  unfold M.all at h1
  rw [List.length_append, List.length_append] at h1
  omega
theorem known_iff {m : M} {b : Book} (h : Rel m b) (id : Nat) : known b id = true ↔ ∃ r ∈ m.all, r.o.id = id := by
  have e : known b id = true ↔ ∃ o ∈ b.rest ++ b.stops, o.id = id := by
    unfold known
    simp only [Bool.or_eq_true, List.any_eq_true, beq_iff_eq, List.mem_append]
    constructor
    · rintro (⟨o, ho, e⟩ | ⟨o, ho, e⟩)
      · exact ⟨o, .inl ho, e⟩
      · exact ⟨o, .inr ho, e⟩
    · rintro ⟨o, ho | ho, e⟩
      · exact .inl ⟨o, ho, e⟩
      · exact .inr ⟨o, ho, e⟩
  rw [e]
  constructor
  · rintro ⟨o, ho, e⟩
    obtain ⟨r, hr, rfl⟩ := List.mem_map.mp ((all_perm h).mem_iff.mpr ho)
    exact ⟨r, hr, e⟩
  · rintro ⟨r, hr, e⟩
    exact ⟨r.o, (all_perm h).mem_iff.mp (List.mem_map.mpr ⟨r, hr, rfl⟩), e⟩
theorem stepN {b : Book} {c : List (List Int)} {q : Call} (h : Sd17Neutral.callOf c = some q) : Sd17Neutral.step b c = ((Sd17.step b q).1, (Sd17.step b q).2.value :: (((Sd17.step b q).2.evs.flatMap numbers ++ (Sd17.step b q).2.seen).map fun (x : Nat) => (x : Int))) := by
  unfold Sd17Neutral.step
  rw [h]
  rfl
theorem stepT {b : Book} {c : List (List Int)} {q : Call} {x : Book × List Ev} (h : Sd17Neutral.callOf c = some q) (e : Sd17.step b q = told x) : Sd17Neutral.step b c = (x.1, ans x.2) := by
  rw [stepN h, e]
  show (x.1, (x.2.length : Int) :: ((x.2.flatMap numbers ++ []).map _)) = _
  rw [List.append_nil]
  rfl
theorem stepNo {b : Book} {c : List (List Int)} {q : Call} {v : Int} (h : Sd17Neutral.callOf c = some q) (e : Sd17.step b q = (b, no v)) : Sd17Neutral.step b c = (b, [v]) := by
  rw [stepN h, e]
  rfl
/-- an order that arrives -/
theorem arrive_fit {m : M} {b : Book} {r : R} (h : Rel m b) (g : Good b) (nd : Nd b) (f : Fine r.o b) (hk : m.auc = true → r.o.kind = 0) (hc : b.rest.length + b.stops.length + 1 ≤ 1024) :
    ∃ y : Book × List Ev, (if b.auction = true then ({ b with rest := b.rest ++ [r.o] }, [.rests r.o.id r.o.price r.o.amount]) else settle (come r.o b)) = y ∧ Fit (arriveM r m).1 y.1 ∧ (arriveM r m).2 = y.2 := by
  refine ⟨_, rfl, ?_⟩
  unfold arriveM
  rw [h.auc]
  by_cases ha : b.auction = true
  · rw [if_pos ha, if_pos ha]
    refine ⟨⟨rel_rest h r, ⟨fun o ho => ?_, g.stops⟩, ?_, ?_⟩, rfl⟩
    · rcases List.mem_append.mp ho with ho | ho
      · exact g.rest o ho
      · rw [List.mem_singleton.mp ho]
        have k0 := hk (h.auc.trans ha)
        exact ⟨k0, f.id, f.price (by omega)⟩
    · unfold Nd at nd ⊢
      refine (List.Perm.nodup_iff (List.Perm.map _ (?_ : (r.o :: (b.rest ++ b.stops)).Perm _))).mp ?_
      · show (r.o :: (b.rest ++ b.stops)).Perm (b.rest ++ [r.o] ++ b.stops)
        rw [List.append_assoc]
        exact List.perm_middle.symm
      · rw [List.map_cons]
        exact List.nodup_cons.mpr ⟨f.new, nd⟩
    · show (b.rest ++ [r.o]).length + b.stops.length ≤ 1024
      rw [List.length_append, List.length_singleton]
      omega
  · rw [if_neg ha, if_neg ha]
    have C := came h nd g f
    have nd2 : Nd (come r.o b).1 := by
      unfold Nd at nd ⊢
      rw [C.stops]
      have n1 : ((b.rest ++ [r.o] ++ b.stops).map (·.id)).Nodup := by
        refine (List.Perm.nodup_iff (List.Perm.map _ (?_ : (r.o :: (b.rest ++ b.stops)).Perm _))).mp ?_
        · rw [List.append_assoc]
          exact List.perm_middle.symm
        · rw [List.map_cons]
          exact List.nodup_cons.mpr ⟨f.new, nd⟩
      refine List.Sublist.nodup ?_ n1
      rw [List.map_append, List.map_append (l₁ := b.rest ++ [r.o]), List.map_append (l₁ := b.rest)]
      exact C.ids.append (List.Sublist.refl _)
    have D := stops_rel C.rel C.good nd2
    have l1 : (come r.o b).1.rest.length ≤ b.rest.length + 1 := by
      have := C.ids.length_le
      rwa [List.length_map, List.length_append, List.length_map, List.length_singleton] at this
    have l2 : (come r.o b).1.stops.length = b.stops.length := by rw [C.stops]
    refine ⟨D.fit (by omega), ?_⟩
    show _ ++ _ = (come r.o b).2 ++ _
    rw [C.ev, D.ev]
end SB
namespace SB
open Sd17
def r32 (z : Int) : Prop := -2147483648 ≤ z ∧ z ≤ 2147483647
/-- what asTold says -/
structure Told (x : W) : Prop where
  n : 1 ≤ x.n
  w : 1 ≤ x.w ∧ x.w ≤ 255
  s : x.s = 0 ∨ x.s = 1
  k : 0 ≤ x.k ∧ x.k ≤ 6
  p : priced x.k = true → inR x.p = true
  t : stopK x.k = true → inR x.t = true
  m : inR x.m = true
theorem told_of {x : W} (h : asTold x = true) : Told x := by
  unfold asTold at h
  by_cases h1 : (decide (x.n < 1) || !(decide (1 ≤ x.w) && decide (x.w ≤ 255))) = true
  · rw [if_pos h1] at h
    cases h
  rw [if_neg h1] at h
  by_cases h2 : ((!(decide (0 ≤ x.s) && decide (x.s ≤ 1))) || !(decide (0 ≤ x.k) && decide (x.k ≤ 6))) = true
  · rw [if_pos h2] at h
    cases h
  rw [if_neg h2] at h
  by_cases h3 : (priced x.k && !inR x.p) = true
  · rw [if_pos h3] at h
    cases h
  rw [if_neg h3] at h
  by_cases h4 : (stopK x.k && !inR x.t) = true
  · rw [if_pos h4] at h
    cases h
  rw [if_neg h4] at h
  simp only [Bool.or_eq_true, decide_eq_true_eq, Bool.not_eq_true', Bool.and_eq_false_iff, decide_eq_false_iff_not, Bool.and_eq_true, not_and, not_or] at h1 h2 h3 h4
  refine ⟨by omega, by omega, by omega, by omega, fun z => ?_, fun z => ?_, h⟩
  · have := h3 z
    simpa using this
  · have := h4 z
    simpa using this
theorem inR_iff {z : Int} : inR z = true ↔ 1 ≤ z ∧ z ≤ 1000000 := by
  unfold inR
  simp
theorem told_to {x : W} (T : Told x) : asTold x = true := by
  obtain ⟨h1, h2, h3, h4, h5, h6, h7⟩ := T
  unfold asTold
  rw [if_neg, if_neg, if_neg, if_neg]
  · exact h7
  · cases e : stopK x.k
    · simp
    · simp [h6 e]
  · cases e : priced x.k
    · simp
    · simp [h5 e]
  · simp only [Bool.or_eq_true, Bool.not_eq_true', Bool.and_eq_false_iff, decide_eq_false_iff_not]
    omega
  · simp only [Bool.or_eq_true, Bool.not_eq_true', Bool.and_eq_false_iff, decide_eq_false_iff_not, decide_eq_true_eq]
    omega
theorem good_prop (o : Order) : good o = true ↔ (1 ≤ o.id ∧ o.id < 2 ^ 31 ∧ 1 ≤ o.who ∧ o.who ≤ 255 ∧ o.kind ≤ 6 ∧ 1 ≤ o.amount ∧ o.amount ≤ 1000000) ∧ ((o.kind = 1 ∨ o.kind = 5 ∨ (1 ≤ o.price ∧ o.price ≤ 1000000)) ∧ (o.kind < 5 ∨ (1 ≤ o.trigger ∧ o.trigger ≤ 1000000))) := by
  unfold good MOST
  simp only [Bool.and_eq_true, Bool.or_eq_true, decide_eq_true_eq, beq_iff_eq]
theorem good_iff (n w s k p m t : Int) (hn : r32 n) : good (clean (Sd17Neutral.orderOf [n, w, s, k, p, m, t])) = asTold (W.init n w s k p m t) := by
  have e : clean (Sd17Neutral.orderOf [n, w, s, k, p, m, t]) = ⟨if s = 0 ∨ s = 1 then n.toNat else 0, w.toNat, s == 0, if k < 0 then 99 else k.toNat,
      if (if k < 0 then 99 else k.toNat) = 1 ∨ (if k < 0 then 99 else k.toNat) = 5 then 0 else p.toNat, m.toNat, if (if k < 0 then 99 else k.toNat) < 5 then 0 else t.toNat⟩ := rfl
  rw [e]
  obtain ⟨n1, n2⟩ := hn
  rw [Bool.eq_iff_iff, good_prop]
  show ((1 ≤ (if s = 0 ∨ s = 1 then n.toNat else 0) ∧ (if s = 0 ∨ s = 1 then n.toNat else 0) < 2 ^ 31 ∧ 1 ≤ w.toNat ∧ w.toNat ≤ 255 ∧ (if k < 0 then 99 else k.toNat) ≤ 6 ∧ 1 ≤ m.toNat ∧ m.toNat ≤ 1000000) ∧
    (((if k < 0 then 99 else k.toNat) = 1 ∨ (if k < 0 then 99 else k.toNat) = 5 ∨
      (1 ≤ (if (if k < 0 then 99 else k.toNat) = 1 ∨ (if k < 0 then 99 else k.toNat) = 5 then 0 else p.toNat) ∧ (if (if k < 0 then 99 else k.toNat) = 1 ∨ (if k < 0 then 99 else k.toNat) = 5 then 0 else p.toNat) ≤ 1000000)) ∧
      ((if k < 0 then 99 else k.toNat) < 5 ∨ (1 ≤ (if (if k < 0 then 99 else k.toNat) < 5 then 0 else t.toNat) ∧ (if (if k < 0 then 99 else k.toNat) < 5 then 0 else t.toNat) ≤ 1000000)))) ↔ _
  by_cases hs : s = 0 ∨ s = 1
  · rw [if_pos hs]
    by_cases hk : k < 0
    · rw [if_pos hk]
      refine iff_of_false (fun z => by omega) fun z => ?_
      have := (told_of z).k
      have : 0 ≤ k := this.1
      omega
    · rw [if_neg hk]
      constructor
      · intro z
        refine told_to ⟨by show 1 ≤ n; omega, by show 1 ≤ w ∧ w ≤ 255; omega, hs, by show 0 ≤ k ∧ k ≤ 6; omega, fun z2 => ?_, fun z2 => ?_, inR_iff.mpr (by show 1 ≤ m ∧ m ≤ 1000000; omega)⟩
        · have z3 : priced k = true := z2
          have : (W.init n w s k p m t).p = p := by
            show (if priced k = true then p else 0) = p
            rw [if_pos z3]
          rw [this, inR_iff]
          unfold priced at z3
          simp at z3
          have c : ¬ (k.toNat = 1 ∨ k.toNat = 5) := by omega
          rw [if_neg c] at z
          omega
        · have z3 : stopK k = true := z2
          rw [inR_iff]
          show 1 ≤ t ∧ t ≤ 1000000
          unfold stopK at z3
          simp at z3
          have c : ¬ k.toNat < 5 := by omega
          rw [if_neg c] at z
          omega
      · intro z
        have T := told_of z
        have t1 : 1 ≤ n := T.n
        have t2 : 1 ≤ w ∧ w ≤ 255 := T.w
        have t4 : 0 ≤ k ∧ k ≤ 6 := T.k
        have t7 : 1 ≤ m ∧ m ≤ 1000000 := inR_iff.mp T.m
        refine ⟨by omega, ?_, ?_⟩
        · by_cases c : k.toNat = 1 ∨ k.toNat = 5
          · omega
          · rw [if_neg c]
            have z3 : priced k = true := by
              unfold priced
              simp
              omega
            have := inR_iff.mp (T.p z3)
            have e3 : (W.init n w s k p m t).p = p := by
              show (if priced k = true then p else 0) = p
              rw [if_pos z3]
            rw [e3] at this
            omega
        · by_cases c : k.toNat < 5
          · exact .inl c
          · rw [if_neg c]
            have z3 : stopK k = true := by
              unfold stopK
              simp
              omega
            have := inR_iff.mp (T.t z3)
            have this : 1 ≤ t ∧ t ≤ 1000000 := this
            omega
  · rw [if_neg hs]
    refine iff_of_false (fun z => by omega) fun z => hs (told_of z).s
theorem good_clean (o : Order) : good (clean o) = good o := by
  rw [Bool.eq_iff_iff, good_prop, good_prop]
  refine and_congr Iff.rfl (and_congr ?_ ?_)
  · show (o.kind = 1 ∨ o.kind = 5 ∨ (1 ≤ (if o.kind = 1 ∨ o.kind = 5 then 0 else o.price) ∧ (if o.kind = 1 ∨ o.kind = 5 then 0 else o.price) ≤ 1000000)) ↔ _
    by_cases h1 : o.kind = 1 ∨ o.kind = 5
    · omega
    · rw [if_neg h1]
  · show (o.kind < 5 ∨ (1 ≤ (if o.kind < 5 then 0 else o.trigger) ∧ (if o.kind < 5 then 0 else o.trigger) ≤ 1000000)) ↔ _
    by_cases h2 : o.kind < 5
    · omega
    · rw [if_neg h2]
theorem ord_eq (n w s k p m t : Int) (h : asTold (W.init n w s k p m t) = true) : clean (Sd17Neutral.orderOf [n, w, s, k, p, m, t]) = (W.init n w s k p m t).ord := by
  have e : Sd17Neutral.orderOf [n, w, s, k, p, m, t] = ⟨if s = 0 ∨ s = 1 then n.toNat else 0, w.toNat, s == 0, if k < 0 then 99 else k.toNat, p.toNat, m.toNat, t.toNat⟩ := rfl
  rw [e]
  unfold asTold W.init priced stopK inR at h
  simp only [Bool.and_eq_true, Bool.or_eq_true, decide_eq_true_eq, Bool.not_eq_true', Bool.and_eq_false_iff, decide_eq_false_iff_not] at h
  by_cases h1 : n < 1 ∨ (¬ 1 ≤ w ∨ ¬ w ≤ 255)
  · rw [if_pos h1] at h
    cases h
  rw [if_neg h1] at h
  by_cases h2 : (¬ 0 ≤ s ∨ ¬ s ≤ 1) ∨ (¬ 0 ≤ k ∨ ¬ k ≤ 6)
  · rw [if_pos h2] at h
    cases h
  have hs : s = 0 ∨ s = 1 := by omega
  have hk0 : ¬ k < 0 := by omega
  have hkc : k = 0 ∨ k = 1 ∨ k = 2 ∨ k = 3 ∨ k = 4 ∨ k = 5 ∨ k = 6 := by omega
  unfold W.init W.ord clean priced
  rcases hs with rfl | rfl <;> rcases hkc with rfl | rfl | rfl | rfl | rfl | rfl | rfl <;> simp
theorem toR_w {x : W} (a : Nat) (h : Told x) (hp : priced x.k = false → x.p = 0) : (x.toR a).w = x := by
  have hm := inR_iff.mp h.m
  have hn := h.n
  have hw := h.w
  have hk := h.k
  have hpp : (x.p.toNat : Int) = x.p := by
    cases e : priced x.k
    · rw [hp e]
      rfl
    · have := inR_iff.mp (h.p e)
      omega
  have hs := h.s
  clear h hp
  obtain ⟨n, w, s, k, p, m, t⟩ := x
  simp only at hm hn hw hk hpp hs
  show W.mk (n.toNat : Int) (w.toNat : Int) (if decide (s = 0) = true then 0 else 1) (k.toNat : Int) (p.toNat : Int) (m.toNat : Int) t = ⟨n, w, s, k, p, m, t⟩
  have e1 : (n.toNat : Int) = n := by omega
  have e2 : (w.toNat : Int) = w := by omega
  have e3 : (if decide (s = 0) = true then (0 : Int) else 1) = s := by
    rcases hs with z | z
    · rw [z]
      rfl
    · rw [z]
      rfl
  have e4 : (k.toNat : Int) = k := by omega
  have e5 : (m.toNat : Int) = m := by omega
  have e6 : (p.toNat : Int) = p := hpp
  rw [e1, e2, e3, e4, e5, e6]
theorem init_p (n w s k p m t : Int) : priced (W.init n w s k p m t).k = false → (W.init n w s k p m t).p = 0 := by
  intro h
  show (if priced k = true then p else 0) = 0
  have h : priced k = false := h
  rw [h]
  rfl
theorem ord_facts {x : W} (h : Told x) (hp : priced x.k = false → x.p = 0) : 1 ≤ x.ord.id ∧ x.ord.kind ≤ 6 ∧ (x.ord.kind : Int) = x.k ∧ (x.ord.kind ≠ 1 → x.ord.kind ≠ 5 → 1 ≤ x.ord.price) ∧ (x.ord.kind = 5 → x.ord.price = 0) ∧ (x.ord.id : Int) = x.n := by
  have hn := h.n
  have hk := h.k
  have e1 : (x.ord.id : Int) = x.n := by
    show (x.n.toNat : Int) = x.n
    omega
  have e2 : (x.ord.kind : Int) = x.k := by
    show (x.k.toNat : Int) = x.k
    omega
  refine ⟨by omega, by omega, e2, fun a b => ?_, fun a => ?_, e1⟩
  · have : priced x.k = true := by
      unfold priced
      simp
      omega
    have := inR_iff.mp (h.p this)
    show 1 ≤ x.p.toNat
    omega
  · have : priced x.k = false := by
      unfold priced
      simp
      omega
    show x.p.toNat = 0
    rw [hp this]
    rfl
theorem any_iff (m : M) (z : Int) : (m.all.any fun r => decide ((r.o.id : Int) = z)) = true ↔ ∃ r ∈ m.all, (r.o.id : Int) = z := by simp
theorem putW_rel {m : M} {b : Book} (h : Rel m b) (r : R) : Rel (putW r m) { b with stops := b.stops ++ [r.o] } :=
  ⟨h.buys, h.sells, by show (m.waits ++ [r]).map (·.o) = _; rw [List.map_append, h.waits]; rfl, h.last, h.auc⟩
theorem order_fit {m : M} {b : Book} (F : Fit m b) (a : Nat) {n w s k p q t : Int} (hn : r32 n) :
    Fit (orderStep (W.init n w s k p q t) a m).1 (Sd17Neutral.step b [[1, n, w, s, k, p, q, t]]).1 ∧ (orderStep (W.init n w s k p q t) a m).2 = (Sd17Neutral.step b [[1, n, w, s, k, p, q, t]]).2 := by
  have hc : Sd17Neutral.callOf [[1, n, w, s, k, p, q, t]] = some (.order (Sd17Neutral.orderOf [n, w, s, k, p, q, t])) := rfl
  have hg := good_iff n w s k p q t hn
  rw [good_clean] at hg
  have hx := init_p n w s k p q t
  have ho := ord_eq n w s k p q t
  generalize W.init n w s k p q t = x at hg hx ho
  have es : Sd17.step b (.order (Sd17Neutral.orderOf [n, w, s, k, p, q, t])) = (let o := clean (Sd17Neutral.orderOf [n, w, s, k, p, q, t])
    if good (Sd17Neutral.orderOf [n, w, s, k, p, q, t]) = false ∨ known b o.id = true then (b, no (-1))
    else if ORDERS ≤ b.rest.length + b.stops.length then (b, no (-2))
    else if b.auction = true then (if o.kind = 0 then told ({ b with rest := b.rest ++ [o] }, [.rests o.id o.price o.amount]) else if 5 ≤ o.kind then told ({ b with stops := b.stops ++ [o] }, []) else (b, no (-2)))
    else if 5 ≤ o.kind then told (settle ({ b with stops := b.stops ++ [o] }, []))
    else told (settle (come o b))) := rfl
  generalize Sd17Neutral.orderOf [n, w, s, k, p, q, t] = o0 at hc hg ho es
  by_cases ht : asTold x = false
  · have e : Sd17.step b (.order o0) = (b, no (-1)) := by
      rw [es]
      exact if_pos (.inl (hg.trans ht))
    rw [stepNo hc e]
    have : orderStep x a m = (m, [-1]) := if_pos (.inl ht)
    rw [this]
    exact ⟨F, rfl⟩
  have ht1 : asTold x = true := by simpa using ht
  have T := told_of ht1
  have eo := ho ht1
  rw [eo] at es
  obtain ⟨f1, f2, f3, f4, f5, f6⟩ := ord_facts T hx
  have hkn : known b x.ord.id = true ↔ (m.all.any fun r => decide ((r.o.id : Int) = x.n)) = true := by
    rw [known_iff F.rel, any_iff]
    constructor
    · rintro ⟨r, hr, e⟩
      exact ⟨r, hr, by omega⟩
    · rintro ⟨r, hr, e⟩
      exact ⟨r, hr, by omega⟩
  by_cases hk : (m.all.any fun r => decide ((r.o.id : Int) = x.n)) = true
  · have e : Sd17.step b (.order o0) = (b, no (-1)) := by
      rw [es]
      exact if_pos (.inr (hkn.mpr hk))
    rw [stepNo hc e]
    have : orderStep x a m = (m, [-1]) := if_pos (.inr hk)
    rw [this]
    exact ⟨F, rfl⟩
  have c1 : ¬ (good o0 = false ∨ known b x.ord.id = true) := by
    rintro (z | z)
    · rw [hg, ht1] at z
      cases z
    · exact hk (hkn.mp z)
  have c1' : ¬ (asTold x = false ∨ (m.all.any fun r => decide ((r.o.id : Int) = x.n)) = true) := by
    rintro (z | z)
    · exact ht z
    · exact hk z
  have la := all_len F.rel
  by_cases hfull : 1024 ≤ m.all.length
  · have e : Sd17.step b (.order o0) = (b, no (-2)) := by
      rw [es]
      show (if _ then _ else _) = _
      rw [if_neg c1]
      exact if_pos (show ORDERS ≤ _ by rw [← la]; exact hfull)
    rw [stepNo hc e]
    have : orderStep x a m = (m, [-2]) := by
      unfold orderStep
      rw [if_neg c1', if_pos hfull]
    rw [this]
    exact ⟨F, rfl⟩
  have c2 : ¬ ORDERS ≤ b.rest.length + b.stops.length := by
    rw [← la]
    exact hfull
  have hcnt : b.rest.length + b.stops.length + 1 ≤ 1024 := by omega
  have hsk : stopK x.k = true ↔ 5 ≤ x.ord.kind := by
    unfold stopK
    simp
    omega
  have new : x.ord.id ∉ (b.rest ++ b.stops).map (·.id) := fun z => by
    obtain ⟨o, ho, e⟩ := List.mem_map.mp z
    refine c1 (.inr ?_)
    unfold known
    rcases List.mem_append.mp ho with ho | ho
    · simp only [Bool.or_eq_true, List.any_eq_true, beq_iff_eq]
      exact .inl ⟨o, ho, e⟩
    · simp only [Bool.or_eq_true, List.any_eq_true, beq_iff_eq]
      exact .inr ⟨o, ho, e⟩
  by_cases hstop : stopK x.k = true
  · -- a stop
    have h5 := hsk.mp hstop
    have e : Sd17.step b (.order o0) = told (if b.auction = true then ({ b with stops := b.stops ++ [x.ord] }, []) else settle ({ b with stops := b.stops ++ [x.ord] }, [])) := by
      rw [es]
      show (if _ then _ else _) = _
      rw [if_neg c1, if_neg c2]
      by_cases ha : b.auction = true
      · rw [if_pos ha, if_pos ha, if_neg (by omega), if_pos h5]
      · rw [if_neg ha, if_neg ha, if_pos h5]
    rw [stepT hc e]
    have em : orderStep x a m = ((waitM (x.toR a) m).1, ans (waitM (x.toR a) m).2) := by
      unfold orderStep
      rw [if_neg c1', if_neg hfull, if_neg (by rw [hstop]; simp), if_pos hstop]
    rw [em]
    have R2 : Rel (putW (x.toR a) m) { b with stops := b.stops ++ [x.ord] } := putW_rel F.rel (x.toR a)
    have G2 : Good { b with stops := b.stops ++ [x.ord] } := by
      refine ⟨F.good.rest, fun o ho => ?_⟩
      rcases List.mem_append.mp ho with ho | ho
      · exact F.good.stops o ho
      · rw [List.mem_singleton.mp ho]
        exact ⟨by omega, f1, fun z => f4 (by omega) (by omega), f5⟩
    have N2 : Nd { b with stops := b.stops ++ [x.ord] } := by
      have := F.nd
      unfold Nd at this ⊢
      refine (List.Perm.nodup_iff (List.Perm.map _ (?_ : (x.ord :: (b.rest ++ b.stops)).Perm _))).mp ?_
      · show (x.ord :: (b.rest ++ b.stops)).Perm (b.rest ++ (b.stops ++ [x.ord]))
        rw [← List.append_assoc]
        exact (List.perm_append_comm (l₁ := [x.ord]))
      · rw [List.map_cons]
        exact List.nodup_cons.mpr ⟨new, this⟩
    unfold waitM
    rw [F.rel.auc]
    by_cases ha : b.auction = true
    · rw [if_pos ha, if_pos ha]
      refine ⟨⟨R2, G2, N2, ?_⟩, rfl⟩
      show b.rest.length + (b.stops ++ [x.ord]).length ≤ 1024
      rw [List.length_append, List.length_singleton]
      omega
    · rw [if_neg ha, if_neg ha]
      have D := stops_rel R2 G2 N2
      refine ⟨D.fit ?_, ?_⟩
      · show b.rest.length + (b.stops ++ [x.ord]).length ≤ 1024
        rw [List.length_append, List.length_singleton]
        omega
      · show ans _ = ans ([] ++ _)
        rw [D.ev]
        rfl
  · -- an order that arrives
    have h5 : ¬ 5 ≤ x.ord.kind := fun z => hstop (hsk.mpr z)
    have hsf : stopK x.k = false := by simpa using hstop
    by_cases hau : b.auction = true ∧ x.ord.kind ≠ 0
    · have e : Sd17.step b (.order o0) = (b, no (-2)) := by
        rw [es]
        show (if _ then _ else _) = _
        rw [if_neg c1, if_neg c2, if_pos hau.1, if_neg hau.2, if_neg h5]
      rw [stepNo hc e]
      have : orderStep x a m = (m, [-2]) := by
        unfold orderStep
        rw [if_neg c1', if_neg hfull, if_pos ⟨F.rel.auc.trans hau.1, by omega, hsf⟩]
      rw [this]
      exact ⟨F, rfl⟩
    have e : Sd17.step b (.order o0) = told (if b.auction = true then ({ b with rest := b.rest ++ [x.ord] }, [.rests x.ord.id x.ord.price x.ord.amount]) else settle (come x.ord b)) := by
      rw [es]
      show (if _ then _ else _) = _
      rw [if_neg c1, if_neg c2]
      by_cases ha : b.auction = true
      · rw [if_pos ha, if_pos ha, if_pos (Classical.byContradiction fun z => hau ⟨ha, z⟩)]
      · rw [if_neg ha, if_neg ha, if_neg h5]
    rw [stepT hc e]
    have em : orderStep x a m = ((arriveM (x.toR a) m).1, ans (arriveM (x.toR a) m).2) := by
      unfold orderStep
      rw [if_neg c1', if_neg hfull, if_neg ?_, if_neg hstop]
      rintro ⟨z1, z2, _⟩
      exact hau ⟨F.rel.auc.symm.trans z1, by omega⟩
    rw [em]
    have A := arrive_fit (r := x.toR a) F.rel F.good F.nd ⟨new, f1, by show x.ord.kind ≤ 4; omega, fun z => f4 z (by show x.ord.kind ≠ 5; omega)⟩ (fun z => Classical.byContradiction fun z2 => hau ⟨F.rel.auc.symm.trans z, z2⟩) hcnt
    obtain ⟨y, e1, e2, e3⟩ := A
    have e1 : (if b.auction = true then ({ b with rest := b.rest ++ [x.ord] }, [.rests x.ord.id x.ord.price x.ord.amount]) else settle (come x.ord b)) = y := e1
    rw [e1, e3]
    exact ⟨e2, rfl⟩
end SB
namespace SB
open Sd17
theorem filter_map_o (l : List R) (id : Nat) : (l.filter fun r => r.o.id != id).map (·.o) = (l.map (·.o)).filter fun o => o.id != id := by
  rw [List.filter_map]
  rfl
theorem del_rel {m : M} {b : Book} (h : Rel m b) (id : Nat) : Rel (delM id m) { b with rest := gone id b.rest, stops := gone id b.stops } := by
  refine ⟨?_, ?_, ?_, h.last, h.auc⟩
  · show (m.buys.filter _).map (·.o) = lineOf true (gone id b.rest)
    rw [filter_map_o, h.buys]
    exact (lineOf_filter true _ b.rest).symm
  · show (m.sells.filter _).map (·.o) = lineOf false (gone id b.rest)
    rw [filter_map_o, h.sells]
    exact (lineOf_filter false _ b.rest).symm
  · show (m.waits.filter _).map (·.o) = gone id b.stops
    rw [filter_map_o, h.waits]
    rfl
theorem gone_no {id : Nat} {l : List Order} (h : ∀ o ∈ l, o.id ≠ id) : gone id l = l := filter_all fun o ho => by simpa using h o ho
theorem ids_apart {b : Book} (nd : Nd b) {o p : Order} (ho : o ∈ b.rest) (hp : p ∈ b.stops) : o.id ≠ p.id := fun e => by
  unfold Nd at nd
  rw [List.map_append] at nd
  exact (List.nodup_append.mp nd).2.2 o.id (List.mem_map.mpr ⟨o, ho, rfl⟩) p.id (List.mem_map.mpr ⟨p, hp, rfl⟩) e
theorem nd_all {m : M} {b : Book} (h : Rel m b) (nd : Nd b) : (m.all.map fun r => r.o.id).Nodup := by
  have e : (m.all.map fun r => r.o.id) = (m.all.map (·.o)).map (·.id) := by
    rw [List.map_map]
    rfl
  rw [e]
  exact (List.Perm.nodup_iff ((all_perm h).map _)).mpr nd
/-- the one of a number -/
theorem find_one {α : Type} {f : α → Nat} : ∀ {l : List α} {x : α} {k : Nat}, (l.map f).Nodup → x ∈ l → f x = k → l.find? (fun y => f y == k) = some x
  | a :: l, x, k, nd, hx, e => by
    rw [List.map_cons] at nd
    obtain ⟨h1, h2⟩ := List.nodup_cons.mp nd
    by_cases c : f a = k
    · rw [List.find?_cons_of_pos (by simpa using c)]
      rcases List.mem_cons.mp hx with h3 | h3
      · rw [h3]
      · exact absurd (List.mem_map.mpr ⟨x, h3, e.trans c.symm⟩) h1
    · rw [List.find?_cons_of_neg (by simpa using c)]
      rcases List.mem_cons.mp hx with h3 | h3
      · rw [h3] at e
        exact absurd e c
      · exact find_one h2 h3 e
  | [], x, k, nd, hx, e => by cases hx
theorem good_gone {b : Book} (g : Good b) (id : Nat) : Good { b with rest := gone id b.rest, stops := gone id b.stops } :=
  ⟨fun o ho => g.rest o (List.mem_filter.mp ho).1, fun o ho => g.stops o (List.mem_filter.mp ho).1⟩
theorem nd_gone {b : Book} (nd : Nd b) (id : Nat) : Nd { b with rest := gone id b.rest, stops := gone id b.stops } := by
  unfold Nd at nd ⊢
  refine List.Sublist.nodup ?_ nd
  refine List.Sublist.map _ ?_
  exact (List.filter_sublist).append (List.filter_sublist)
theorem len_gone (id : Nat) (l : List Order) : (gone id l).length ≤ l.length := List.length_filter_le _ _
theorem ids_pos {m : M} {b : Book} (F : Fit m b) {r : R} (hr : r ∈ m.all) : 1 ≤ r.o.id := by
  have := (all_perm F.rel).mem_iff.mp (List.mem_map.mpr ⟨r, hr, rfl⟩)
  rcases List.mem_append.mp this with h | h
  · exact (F.good.rest _ h).2.1
  · exact (F.good.stops _ h).2.1
theorem cancel_fit {m : M} {b : Book} (F : Fit m b) (z : Int) :
    Fit (cancelStep z m).1 (Sd17Neutral.step b [[2, z]]).1 ∧ (cancelStep z m).2 = (Sd17Neutral.step b [[2, z]]).2 := by
  have hc : Sd17Neutral.callOf [[2, z]] = some (.cancel z.toNat) := rfl
  have es : Sd17.step b (.cancel z.toNat) = (match (b.rest ++ b.stops).find? (fun o => o.id == z.toNat) with
    | none => (b, no (-1))
    | some o => told ({ b with rest := gone z.toNat b.rest, stops := gone z.toNat b.stops }, [.ended z.toNat 1 o.price o.amount])) := rfl
  unfold cancelStep
  cases e : m.all.find? fun r => decide ((r.o.id : Int) = z) with
  | none =>
    have e2 : (b.rest ++ b.stops).find? (fun o => o.id == z.toNat) = none := by
      rw [List.find?_eq_none]
      intro o ho hid
      obtain ⟨r, hr, rfl⟩ := List.mem_map.mp ((all_perm F.rel).mem_iff.mpr ho)
      have h1 := List.find?_eq_none.mp e r hr
      have h2 := ids_pos F hr
      simp at h1 hid
      omega
    rw [e2] at es
    rw [stepNo hc es]
    exact ⟨F, rfl⟩
  | some r =>
    have hr := List.mem_of_find?_eq_some e
    have hz : (r.o.id : Int) = z := by simpa using List.find?_some e
    have hn : z.toNat = r.o.id := by omega
    have e2 : (b.rest ++ b.stops).find? (fun o => o.id == z.toNat) = some r.o :=
      find_one (f := fun o : Order => o.id) (show ((b.rest ++ b.stops).map fun o => o.id).Nodup from F.nd) ((all_perm F.rel).mem_iff.mp (List.mem_map.mpr ⟨r, hr, rfl⟩)) hn.symm
    rw [e2] at es
    rw [stepT hc es]
    show Fit (delM r.o.id m) _ ∧ ans _ = ans _
    rw [hn]
    refine ⟨⟨del_rel F.rel _, good_gone F.good _, nd_gone F.nd _, ?_⟩, rfl⟩
    have h1 := len_gone r.o.id b.rest
    have h2 := len_gone r.o.id b.stops
    have := F.cnt
    show (gone _ _).length + (gone _ _).length ≤ 1024
    omega
theorem re_map (id n : Nat) (l : List R) : (l.map (reR id n)).map (·.o) = (l.map (·.o)).map (reAm id n) := by
  rw [List.map_map, List.map_map]
  refine List.map_congr_left fun r _ => ?_
  show (reR id n r).o = reAm id n r.o
  unfold reR reAm
  split <;> rfl
theorem re_rel {m : M} {b : Book} (h : Rel m b) (id n : Nat) (hn : n ≠ 0) : Rel (reM id n m) { b with rest := left id n b.rest } := by
  refine ⟨?_, ?_, h.waits, h.last, h.auc⟩
  · show (m.buys.map (reR id n)).map (fun r => r.o) = lineOf true (left id n b.rest)
    rw [re_map, h.buys, left_pos hn, lineOf_map _ (reAm_buy _ _) (reAm_price _ _)]
  · show (m.sells.map (reR id n)).map (fun r => r.o) = lineOf false (left id n b.rest)
    rw [re_map, h.sells, left_pos hn, lineOf_map _ (reAm_buy _ _) (reAm_price _ _)]
theorem lines_perm {m : M} {b : Book} (h : Rel m b) : ((m.buys ++ m.sells).map (·.o)).Perm b.rest := by
  rw [List.map_append, h.buys, h.sells]
  refine ((lineOf_perm true b.rest).append (lineOf_perm false b.rest)).trans ?_
  refine (List.Perm.of_eq ?_).trans (part_perm (fun o => o.buy == true) b.rest)
  congr 1
  refine List.filter_congr fun o _ => ?_
  cases o.buy <;> rfl
theorem change_fit {m : M} {b : Book} (F : Fit m b) (z p n : Int) :
    Fit (changeStep z p n m).1 (Sd17Neutral.step b [[3, z, p, n]]).1 ∧ (changeStep z p n m).2 = (Sd17Neutral.step b [[3, z, p, n]]).2 := by
  have hc : Sd17Neutral.callOf [[3, z, p, n]] = some (.change z.toNat p.toNat n.toNat) := rfl
  have es : Sd17.step b (.change z.toNat p.toNat n.toNat) = (match b.rest.find? (fun o => o.id == z.toNat) with
    | none => (b, no (-1))
    | some o => if p.toNat = 0 ∨ MOST < p.toNat ∨ n.toNat = 0 ∨ MOST < n.toNat then (b, no (-1))
      else if p.toNat = o.price ∧ n.toNat ≤ o.amount then told ({ b with rest := left z.toNat n.toNat b.rest }, [.rests z.toNat p.toNat n.toNat])
      else
        let q := { o with price := p.toNat, amount := n.toNat }
        let c := { b with rest := gone z.toNat b.rest }
        if b.auction = true then told ({ c with rest := c.rest ++ [q] }, [.rests z.toNat p.toNat n.toNat]) else told (settle (come q c))) := rfl
  unfold changeStep
  have ndr := nd_rest F.nd
  cases e : (m.buys ++ m.sells).find? fun r => decide ((r.o.id : Int) = z) with
  | none =>
    have e2 : b.rest.find? (fun o => o.id == z.toNat) = none := by
      rw [List.find?_eq_none]
      intro o ho hid
      obtain ⟨r, hr, rfl⟩ := List.mem_map.mp ((lines_perm F.rel).mem_iff.mpr ho)
      have h1 := List.find?_eq_none.mp e r hr
      have h2 := (F.good.rest _ ho).2.1
      simp at h1 hid
      omega
    rw [e2] at es
    rw [stepNo hc es]
    exact ⟨F, rfl⟩
  | some r =>
    have hr := List.mem_of_find?_eq_some e
    have hz : (r.o.id : Int) = z := by simpa using List.find?_some e
    have hn : z.toNat = r.o.id := by omega
    have hmem : r.o ∈ b.rest := (lines_perm F.rel).mem_iff.mp (List.mem_map.mpr ⟨r, hr, rfl⟩)
    have e2 : b.rest.find? (fun o => o.id == z.toNat) = some r.o := find_one (f := fun o => o.id) ndr hmem hn.symm
    rw [e2] at es
    simp only at es
    by_cases hp : inR p = false ∨ inR n = false
    · have c : p.toNat = 0 ∨ MOST < p.toNat ∨ n.toNat = 0 ∨ MOST < n.toNat := by
        unfold inR MOST at *
        simp at hp
        omega
      rw [if_pos c] at es
      rw [stepNo hc es]
      show Fit (if _ then _ else _ : M × List Int).1 _ ∧ (if _ then _ else _ : M × List Int).2 = _
      rw [if_pos hp]
      exact ⟨F, rfl⟩
    · have c : ¬ (p.toNat = 0 ∨ MOST < p.toNat ∨ n.toNat = 0 ∨ MOST < n.toNat) := by
        unfold inR MOST at *
        simp at hp
        omega
      have hpos : 1 ≤ p ∧ 1 ≤ n := by
        unfold inR at hp
        simp at hp
        omega
      rw [if_neg c] at es
      simp only [hp, if_false]
      by_cases hk : p = (r.o.price : Int) ∧ n ≤ (r.o.amount : Int)
      · have c2 : p.toNat = r.o.price ∧ n.toNat ≤ r.o.amount := by omega
        rw [if_pos c2] at es
        rw [stepT hc es]
        simp only [hk, and_self, if_true]
        have hn0 : n.toNat ≠ 0 := by omega
        rw [hn]
        refine ⟨⟨re_rel F.rel _ _ hn0, ⟨fun o ho => ?_, F.good.stops⟩, ?_, ?_⟩, rfl⟩
        · obtain ⟨q, hq, q1, q2, q3, _⟩ := left_like ndr hmem (n := n.toNat) c2.2 o ho
          have := F.good.rest q hq
          rw [q1, q2, q3]
          exact this
        · have nd := F.nd
          unfold Nd at nd ⊢
          rw [List.map_append] at nd ⊢
          exact List.Sublist.nodup ((left_ids _ _ _).append (List.Sublist.refl _)) nd
        · have := (left_ids r.o.id n.toNat b.rest).length_le
          rw [List.length_map, List.length_map] at this
          have := F.cnt
          show (left _ _ _).length + b.stops.length ≤ 1024
          omega
      · have c2 : ¬ (p.toNat = r.o.price ∧ n.toNat ≤ r.o.amount) := by omega
        rw [if_neg c2] at es
        simp only [hk, if_false]
        have gs : gone r.o.id b.stops = b.stops := gone_no fun o ho => Ne.symm (ids_apart F.nd hmem ho)
        have R1 : Rel (delM r.o.id m) { b with rest := gone r.o.id b.rest } := by
          have := del_rel F.rel r.o.id
          rwa [gs] at this
        have G1 : Good { b with rest := gone r.o.id b.rest } := ⟨fun o ho => F.good.rest o (List.mem_filter.mp ho).1, F.good.stops⟩
        have N1 : Nd { b with rest := gone r.o.id b.rest } := by
          have := nd_gone F.nd r.o.id
          rwa [gs] at this
        have hg := F.good.rest _ hmem
        have A := arrive_fit (r := newR r p.toNat n.toNat) R1 G1 N1 ⟨?_, hg.2.1, by show r.o.kind ≤ 4; omega, fun _ => by show 1 ≤ p.toNat; omega⟩ (fun _ => hg.1) ?_
        · obtain ⟨y, e1, e3, e4⟩ := A
          have es2 : Sd17.step b (.change z.toNat p.toNat n.toNat) = told y := by
            rw [es, ← e1, hn]
            show (if b.auction = true then _ else _) = told (if b.auction = true then _ else _)
            split <;> rfl
          rw [stepT hc es2, e4]
          exact ⟨e3, rfl⟩
        · intro hm
          obtain ⟨o, ho, eo⟩ := List.mem_map.mp hm
          rcases List.mem_append.mp ho with ho | ho
          · have := (List.mem_filter.mp ho).2
            simp at this
            exact this eo
          · exact ids_apart F.nd hmem ho eo.symm
        · have hl : (gone r.o.id b.rest).length + 1 ≤ b.rest.length := by
            have h2 : (gone r.o.id b.rest).length < b.rest.length := by
              unfold gone
              refine List.length_filter_lt_length_iff_exists.mpr ⟨r.o, hmem, by simp⟩
            omega
          have := F.cnt
          show (gone _ _).length + b.stops.length + 1 ≤ 1024
          omega
theorem auction_fit {m : M} {b : Book} (F : Fit m b) (on : Int) (ps : List Nat) (hp : ∀ p, p ∈ ps ↔ p ∈ (m.buys ++ m.sells).map fun r => r.o.price) :
    Fit (auctionStep on ps m).1 (Sd17Neutral.step b [[4, on]]).1 ∧ (auctionStep on ps m).2 = (Sd17Neutral.step b [[4, on]]).2 := by
  have hc : Sd17Neutral.callOf [[4, on]] = some (.auction (decide (on ≠ 0))) := rfl
  have es : Sd17.step b (.auction (decide (on ≠ 0))) = (if decide (on ≠ 0) = b.auction then (b, no (-1)) else if decide (on ≠ 0) = true then told ({ b with auction := true }, []) else told (uncross b)) := rfl
  unfold auctionStep
  rw [F.rel.auc]
  by_cases h1 : decide (on ≠ 0) = b.auction
  · rw [if_pos h1] at es ⊢
    rw [stepNo hc es]
    exact ⟨F, rfl⟩
  rw [if_neg h1] at es ⊢
  by_cases h2 : on ≠ 0
  · rw [if_pos (decide_eq_true h2)] at es
    rw [if_pos h2, stepT hc es]
    exact ⟨⟨⟨F.rel.buys, F.rel.sells, F.rel.waits, F.rel.last, rfl⟩, ⟨F.good.rest, F.good.stops⟩, F.nd, F.cnt⟩, rfl⟩
  · rw [if_neg (by simpa using h2)] at es
    rw [if_neg h2, stepT hc es]
    have R0 : Rel { m with auc := false } { b with auction := false } := ⟨F.rel.buys, F.rel.sells, F.rel.waits, F.rel.last, rfl⟩
    have G0 : Good { b with auction := false } := ⟨F.good.rest, F.good.stops⟩
    have N0 : Nd { b with auction := false } := F.nd
    have ec := clear_eq R0 ps hp
    have eu : uncross b = settle (match clearing { b with auction := false } with
      | none => ({ b with auction := false }, [])
      | some p => cross p (b.rest.length + 1) { b with auction := false }) := rfl
    have el : m.buys.length + m.sells.length + 1 = b.rest.length + 1 := by rw [lines_len F.rel]
    -- the trading: without a price none of the sellers has one so low
    have D : Done (crossM (clearP { m with auc := false } ps) (b.rest.length + 1) { m with auc := false }).1 (crossM (clearP { m with auc := false } ps) (b.rest.length + 1) { m with auc := false }).2
        (match clearing { b with auction := false } with
          | none => (({ b with auction := false }, []) : Book × List Ev)
          | some p => cross p (b.rest.length + 1) { b with auction := false }).1
        (match clearing { b with auction := false } with
          | none => (({ b with auction := false }, []) : Book × List Ev)
          | some p => cross p (b.rest.length + 1) { b with auction := false }).2 false (b.rest.length + b.stops.length) := by
      rw [ec]
      cases ep : clearing { b with auction := false } with
      | some p => exact (cross_rel p (b.rest.length + 1) _ _ R0 G0 N0).1
      | none =>
        have e0 : crossM 0 (b.rest.length + 1) { m with auc := false } = ({ m with auc := false }, []) := by
          show (match m.buys, m.sells with
            | x :: bs, y :: ss => _
            | _, _ => _) = _
          cases e1 : m.buys with
          | nil => rfl
          | cons x bs =>
            cases e2 : m.sells with
            | nil => rfl
            | cons y ss =>
              have hy : y.o ∈ b.rest := by
                have : y.o ∈ lineOf false b.rest := by
                  rw [← F.rel.sells, e2]
                  exact List.mem_cons_self ..
                exact (lineOf_mem.mp this).1
              have := (F.good.rest _ hy).2.2
              show (if x.o.price < 0 ∨ 0 < y.o.price then _ else _) = _
              rw [if_pos (.inr this)]
        show Done (crossM 0 _ _).1 _ _ _ _ _
        rw [show (none : Option Nat).getD 0 = 0 from rfl, e0]
        exact ⟨R0, rfl, G0, N0, rfl, Nat.le_refl _⟩
    unfold auctionM
    simp only
    rw [el]
    rw [eu]
    generalize (match clearing { b with auction := false } with
          | none => (({ b with auction := false }, []) : Book × List Ev)
          | some p => cross p (b.rest.length + 1) { b with auction := false }) = y at D
    have D2 := stops_rel D.rel D.good D.nd
    refine ⟨D2.fit (Nat.le_trans D.cnt F.cnt), ?_⟩
    show ans (_ ++ _) = ans (y.2 ++ _)
    rw [D.ev, D2.ev]
theorem look_fit {m : M} {b : Book} (F : Fit m b) (ps : List Nat) (hp : ∀ p, p ∈ ps ↔ p ∈ (m.buys ++ m.sells).map fun r => r.o.price) :
    Sd17Neutral.step b [[5]] = (b, lookStep ps m) := by
  have hc : Sd17Neutral.callOf [[5]] = some .look := rfl
  have side : ∀ buy : Bool, (match best buy b.rest with
      | none => [0, 0]
      | some o => [o.price, ((b.rest.filter fun r => r.buy == buy && r.price == o.price).map fun r => r.amount).sum]) = [topP (m.side buy), topA (m.side buy)] := by
    intro buy
    rw [rel_best F.rel buy]
    unfold topA
    cases e : m.side buy with
    | nil => rfl
    | cons r l =>
      show [r.o.price, _] = [r.o.price, _]
      congr 2
      have h1 : (((r :: l).filter fun x => decide (x.o.price = r.o.price)).map fun x => x.o.amount) = ((lineOf buy b.rest).filter fun x => decide (x.price = r.o.price)).map fun x => x.amount := by
        rw [← F.rel.side buy, e, List.filter_map, List.map_map]
        rfl
      show _ = (((r :: l).filter fun x => decide (x.o.price = r.o.price)).map fun x => x.o.amount).sum
      rw [h1]
      refine sum_perm (List.Perm.map _ ?_)
      refine List.Perm.symm (((lineOf_perm buy b.rest).filter _).trans ?_)
      rw [List.filter_filter]
      refine List.Perm.of_eq (List.filter_congr fun o _ => ?_)
      rw [Bool.eq_iff_iff]
      simp
      exact And.comm
  rw [stepN hc]
  have e1 : (Sd17.step b .look) = (b, ⟨0, [], (match best true b.rest with
      | none => [0, 0]
      | some o => [o.price, ((b.rest.filter fun r => r.buy == true && r.price == o.price).map fun r => r.amount).sum]) ++ (match best false b.rest with
      | none => [0, 0]
      | some o => [o.price, ((b.rest.filter fun r => r.buy == false && r.price == o.price).map fun r => r.amount).sum]) ++ [b.last, if b.auction = true then (clearing b).getD 0 else 0]⟩) := rfl
  rw [e1, side true, side false, ← clear_eq F.rel ps hp, ← F.rel.auc, ← F.rel.last]
  rfl
end SB
namespace SB
open Sd17
/-! ### a line of calls -/
inductive Form : List (List Int) → Prop
  | order (n w s k p q t : Int) (h : r32 n) : Form [[1, n, w, s, k, p, q, t]]
  | cancel (z : Int) : Form [[2, z]]
  | change (z p n : Int) : Form [[3, z, p, n]]
  | auction (on : Int) : Form [[4, on]]
  | look : Form [[5]]
theorem whole_id (c : List (List Int)) : PySd17.whole c = c := by
  unfold PySd17.whole
  split <;> rfl
theorem len0 {α : Type} {l : List α} (h : l.length = 0) : l = [] := List.eq_nil_of_length_eq_zero h
theorem form_of {c : List (List Int)} (h : PyFlat.okCall PySd17.shape c) (a : Sd17Neutral.asked1 c = true) : Form c := by
  obtain ⟨p, x, rows, rfl, hs⟩ := h
  unfold PySd17.shape at hs
  by_cases h1 : p = 1
  · rw [if_pos h1] at hs
    have hs := Option.some.inj hs
    have e1 : 7 = x.length := congrArg Prod.fst hs
    have e2 : 0 = rows.length := congrArg Prod.snd hs
    rw [len0 e2.symm] at a ⊢
    subst h1
    match x, e1 with
    | [n, w, s, k, p, q, t], _ =>
      refine .order n w s k p q t ?_
      have a : (Sd17Neutral.whole32 n && _) = true := a
      have := (Bool.and_eq_true_iff.mp a).1
      unfold Sd17Neutral.whole32 at this
      simp at this
      unfold r32
      omega
  rw [if_neg h1] at hs
  by_cases h2 : p = 2
  · rw [if_pos h2] at hs
    have hs := Option.some.inj hs
    have e1 : 1 = x.length := congrArg Prod.fst hs
    have e2 : 0 = rows.length := congrArg Prod.snd hs
    rw [len0 e2.symm]
    subst h2
    match x, e1 with
    | [z], _ => exact .cancel z
  rw [if_neg h2] at hs
  by_cases h3 : p = 3
  · rw [if_pos h3] at hs
    have hs := Option.some.inj hs
    have e1 : 3 = x.length := congrArg Prod.fst hs
    have e2 : 0 = rows.length := congrArg Prod.snd hs
    rw [len0 e2.symm]
    subst h3
    match x, e1 with
    | [z, p, n], _ => exact .change z p n
  rw [if_neg h3] at hs
  by_cases h4 : p = 4
  · rw [if_pos h4] at hs
    have hs := Option.some.inj hs
    have e1 : 1 = x.length := congrArg Prod.fst hs
    have e2 : 0 = rows.length := congrArg Prod.snd hs
    rw [len0 e2.symm]
    subst h4
    match x, e1 with
    | [z], _ => exact .auction z
  rw [if_neg h4] at hs
  by_cases h5 : p = 5
  · rw [if_pos h5] at hs
    have hs := Option.some.inj hs
    have e1 : 0 = x.length := congrArg Prod.fst hs
    have e2 : 0 = rows.length := congrArg Prod.snd hs
    rw [len0 e2.symm, len0 e1.symm]
    subst h5
    exact .look
  rw [if_neg h5] at hs
  cases hs
def after (s : Book) (cs : List (List (List Int))) : Book := cs.foldl (fun s c => (Sd17Neutral.step s c).1) s
theorem after_snoc (s : Book) (cs : List (List (List Int))) (c : List (List Int)) : after s (cs ++ [c]) = (Sd17Neutral.step (after s cs) c).1 := by
  unfold after
  rw [List.foldl_append]
  rfl
theorem played_append : ∀ (s : Book) (cs ds : List (List (List Int))), PyFlat.played Sd17Neutral.step s (cs ++ ds) = PyFlat.played Sd17Neutral.step s cs ++ PyFlat.played Sd17Neutral.step (after s cs) ds
  | s, [], ds => rfl
  | s, c :: cs, ds => by
    show _ :: PyFlat.played _ _ (cs ++ ds) = _ :: (_ ++ _)
    rw [played_append]
    rfl
theorem told_append (a b : List (List Int)) : PyFlat.told (a ++ b) = PyFlat.told a ++ PyFlat.told b := by
  unfold PyFlat.told
  rw [List.flatMap_append]
/-- what is told of the calls so far -/
def soFar (d : List (List (List Int))) : List Int := PyFlat.told (PyFlat.played Sd17Neutral.step fresh d)
theorem soFar_snoc (d : List (List (List Int))) (c : List (List Int)) : soFar (d ++ [c]) = soFar d ++ (((Sd17Neutral.step (after fresh d) c).2.length : Int) :: (Sd17Neutral.step (after fresh d) c).2) := by
  unfold soFar
  rw [played_append, told_append]
  congr 1
  show PyFlat.told [_] = _
  unfold PyFlat.told
  rw [List.flatMap_cons, List.flatMap_nil, List.append_nil]
theorem soFar_le (d e : List (List (List Int))) : (soFar d).length ≤ (soFar (d ++ e)).length := by
  unfold soFar
  rw [played_append, told_append, List.length_append]
  omega
theorem put_append (a b : List (List (List Int))) : PyFlat.put (a ++ b) = PyFlat.put a ++ PyFlat.put b := by
  induction a with
  | nil => rfl
  | cons c a ih =>
    show _ ++ PyFlat.put (a ++ b) = (_ ++ _) ++ _
    rw [ih, List.append_assoc]
theorem asked_raw {l : List Int} (h : PySd17.answers_asked l = true) : ∃ raw, l = PyFlat.put raw ∧ (∀ c ∈ raw, Form c) ∧ PySd17.answers l = soFar raw ∧ (soFar raw).length ≤ 10000000 := by
  unfold PySd17.answers_asked at h
  cases e : PyFlat.calls PySd17.shape l.length l with
  | none =>
    rw [e] at h
    cases h
  | some raw =>
    rw [e] at h
    simp only [Bool.and_eq_true] at h
    obtain ⟨⟨⟨_, _⟩, h3⟩, h4⟩ := h
    obtain ⟨e1, e2⟩ := PyFlat.put_calls l.length l raw e
    have ew : raw.map PySd17.whole = raw := map_id_of fun c _ => whole_id c
    rw [ew] at h3
    have ea : PySd17.answers l = soFar raw := by
      unfold PySd17.answers PySd17.calls
      rw [e]
      show PyFlat.told (PyFlat.played _ _ (raw.map PySd17.whole)) = _
      rw [ew]
      rfl
    refine ⟨raw, e1, fun c hc => form_of (e2 c hc) (List.all_eq_true.mp h3 c hc), ea, ?_⟩
    unfold PyFlat.short at h4
    rw [← ea]
    simpa using h4
theorem fit_fresh : Fit ⟨[], [], [], 0, false⟩ fresh := ⟨⟨rfl, rfl, rfl, rfl, rfl⟩, ⟨fun o ho => (nomatch ho), fun o ho => (nomatch ho)⟩, List.nodup_nil, by decide⟩
end SB
namespace SB
open Sd17
/-! ### what holds of the mirror's book by itself -/
structure MOk (m : M) : Prop where
  b : ∀ r ∈ m.buys, r.o.buy = true ∧ (r.k = 0 ∨ r.k = 4)
  s : ∀ r ∈ m.sells, r.o.buy = false ∧ (r.k = 0 ∨ r.k = 4)
  w : ∀ r ∈ m.waits, (r.k = 5 ∨ r.k = 6) ∧ r.k = r.o.kind ∧ r.t = (r.o.trigger : Int)
  sb : Srt true (m.buys.map (·.o))
  ss : Srt false (m.sells.map (·.o))
  addr : (m.all.map (·.a)).Nodup
  ids : (m.all.map fun r => r.o.id).Nodup
theorem MOk.side {m : M} (h : MOk m) (buy : Bool) : ∀ r ∈ m.side buy, r.o.buy = buy ∧ (r.k = 0 ∨ r.k = 4) := by
  cases buy
  · exact h.s
  · exact h.b
theorem MOk.srt {m : M} (h : MOk m) (buy : Bool) : Srt buy ((m.side buy).map (·.o)) := by
  cases buy
  · exact h.ss
  · exact h.sb
theorem mem_all {m : M} {r : R} : r ∈ m.all ↔ r ∈ m.buys ∨ r ∈ m.sells ∨ r ∈ m.waits := by
  unfold M.all
  rw [List.mem_append, List.mem_append, or_assoc]
theorem side_all {m : M} {r : R} {buy : Bool} (h : r ∈ m.side buy) : r ∈ m.all := by
  rw [mem_all]
  cases buy
  · exact .inr (.inl h)
  · exact .inl h
theorem del_all (id : Nat) (m : M) : (delM id m).all = m.all.filter fun r => r.o.id != id := by
  unfold M.all delM
  rw [List.filter_append, List.filter_append]
theorem srt_sub {buy : Bool} {l l' : List Order} (h : Srt buy l) (s : l'.Sublist l) : Srt buy l' := List.Pairwise.sublist s h
theorem MOk.del {m : M} (h : MOk m) (id : Nat) : MOk (delM id m) := by
  refine ⟨fun r hr => h.b r (List.mem_filter.mp hr).1, fun r hr => h.s r (List.mem_filter.mp hr).1, fun r hr => h.w r (List.mem_filter.mp hr).1, srt_sub h.sb ?_, srt_sub h.ss ?_, ?_, ?_⟩
  · exact (List.filter_sublist).map _
  · exact (List.filter_sublist).map _
  · rw [del_all]
    exact List.Sublist.nodup ((List.filter_sublist).map _) h.addr
  · rw [del_all]
    exact List.Sublist.nodup ((List.filter_sublist).map _) h.ids
theorem ins_perm (r : R) : ∀ l : List R, (ins r l).Perm (r :: l)
  | [] => List.Perm.refl _
  | x :: l => by
    unfold ins
    split
    · exact List.Perm.refl _
    · exact ((ins_perm r l).cons x).trans (List.Perm.swap r x l)
theorem rest_perm (r : R) (m : M) : (restM r m).all.Perm (r :: m.all) := by
  unfold restM
  cases e : r.o.buy
  · show (m.buys ++ ins r m.sells ++ m.waits).Perm (r :: (m.buys ++ m.sells ++ m.waits))
    refine (((ins_perm r m.sells).append_left m.buys).append_right m.waits).trans ?_
    rw [List.append_assoc, List.append_assoc]
    exact List.perm_middle
  · show (ins r m.buys ++ m.sells ++ m.waits).Perm (r :: (m.buys ++ m.sells ++ m.waits))
    exact (((ins_perm r m.buys).append_right m.sells).append_right m.waits)
theorem MOk.rest {m : M} (h : MOk m) {r : R} (ha : r.a ∉ m.all.map (·.a)) (hi : r.o.id ∉ m.all.map fun r => r.o.id) (hk : r.k = 0 ∨ r.k = 4) : MOk (restM r m) := by
  have na : ((restM r m).all.map (·.a)).Nodup := (List.Perm.nodup_iff ((rest_perm r m).map _)).mpr (List.nodup_cons.mpr ⟨ha, h.addr⟩)
  have ni : ((restM r m).all.map fun r => r.o.id).Nodup := (List.Perm.nodup_iff ((rest_perm r m).map _)).mpr (List.nodup_cons.mpr ⟨hi, h.ids⟩)
  cases e : r.o.buy
  · have eb : (restM r m).buys = m.buys := by
      unfold restM
      rw [e]
      rfl
    have es : (restM r m).sells = ins r m.sells := by
      unfold restM
      rw [e]
      rfl
    have ew : (restM r m).waits = m.waits := by
      unfold restM
      rw [e]
      rfl
    refine ⟨eb ▸ h.b, ?_, ew ▸ h.w, eb ▸ h.sb, ?_, na, ni⟩
    · rw [es]
      intro x hx
      rcases List.mem_cons.mp ((ins_perm r m.sells).mem_iff.mp hx) with rfl | hx
      · exact ⟨e, hk⟩
      · exact h.s x hx
    · rw [es, ins_map]
      exact insO_srt e h.ss
  · have eb : (restM r m).buys = ins r m.buys := by
      unfold restM
      rw [e]
      rfl
    have es : (restM r m).sells = m.sells := by
      unfold restM
      rw [e]
      rfl
    have ew : (restM r m).waits = m.waits := by
      unfold restM
      rw [e]
      rfl
    refine ⟨?_, es ▸ h.s, ew ▸ h.w, ?_, es ▸ h.ss, na, ni⟩
    · rw [eb]
      intro x hx
      rcases List.mem_cons.mp ((ins_perm r m.buys).mem_iff.mp hx) with rfl | hx
      · exact ⟨e, hk⟩
      · exact h.b x hx
    · rw [eb, ins_map]
      exact insO_srt e h.sb
theorem putW_perm (r : R) (m : M) : (putW r m).all.Perm (r :: m.all) := by
  show (m.buys ++ m.sells ++ (m.waits ++ [r])).Perm (r :: (m.buys ++ m.sells ++ m.waits))
  rw [← List.append_assoc]
  exact List.perm_append_comm (l₂ := [r])
theorem MOk.putW {m : M} (h : MOk m) {r : R} (ha : r.a ∉ m.all.map (·.a)) (hi : r.o.id ∉ m.all.map fun r => r.o.id) (hk : (r.k = 5 ∨ r.k = 6) ∧ r.k = r.o.kind ∧ r.t = (r.o.trigger : Int)) : MOk (putW r m) := by
  refine ⟨h.b, h.s, fun x hx => ?_, h.sb, h.ss, (List.Perm.nodup_iff ((putW_perm r m).map _)).mpr (List.nodup_cons.mpr ⟨ha, h.addr⟩), (List.Perm.nodup_iff ((putW_perm r m).map _)).mpr (List.nodup_cons.mpr ⟨hi, h.ids⟩)⟩
  rcases List.mem_append.mp hx with hx | hx
  · exact h.w x hx
  · rw [List.mem_singleton.mp hx]
    exact hk
/-- amounts alone change -/
structure AmOnly (f : R → R) : Prop where
  a : ∀ r, (f r).a = r.a
  k : ∀ r, (f r).k = r.k
  t : ∀ r, (f r).t = r.t
  id : ∀ r, (f r).o.id = r.o.id
  buy : ∀ r, (f r).o.buy = r.o.buy
  price : ∀ r, (f r).o.price = r.o.price
def mapM (f : R → R) (m : M) : M := { m with buys := m.buys.map f, sells := m.sells.map f }
theorem srt_map {buy : Bool} {f : R → R} (hf : AmOnly f) : ∀ {l : List R}, Srt buy (l.map (·.o)) → Srt buy ((l.map f).map (·.o)) := by
  intro l h
  unfold Srt at *
  rw [List.map_map, List.pairwise_map]
  rw [List.pairwise_map] at h
  refine h.imp ?_
  intro x y hxy
  show better buy (f y).o.price (f x).o.price = false
  rw [hf.price, hf.price]
  exact hxy
theorem mapM_key {α : Type} (g : R → α) (f : R → R) (hg : ∀ r, g (f r) = g r) (m : M) : (mapM f m).all.map g = m.all.map g := by
  show (m.buys.map f ++ m.sells.map f ++ m.waits).map g = _
  unfold M.all
  rw [List.map_append, List.map_append, List.map_append, List.map_append, List.map_map, List.map_map]
  have e : g ∘ f = g := by
    funext r
    exact hg r
  rw [e]
theorem MOk.mapM {m : M} (h : MOk m) {f : R → R} (hf : AmOnly f) : MOk (mapM f m) := by
  refine ⟨fun x hx => ?_, fun x hx => ?_, h.w, srt_map hf h.sb, srt_map hf h.ss, ?_, ?_⟩
  · obtain ⟨r, hr, rfl⟩ := List.mem_map.mp hx
    rw [hf.buy, hf.k]
    exact h.b r hr
  · obtain ⟨r, hr, rfl⟩ := List.mem_map.mp hx
    rw [hf.buy, hf.k]
    exact h.s r hr
  · rw [mapM_key (·.a) f hf.a]
    exact h.addr
  · rw [mapM_key (fun r => r.o.id) f hf.id]
    exact h.ids
theorem MOk.at {m : M} (h : MOk m) (la : Nat) : MOk (m.at la) := ⟨h.b, h.s, h.w, h.sb, h.ss, h.addr, h.ids⟩
theorem MOk.auc {m : M} (h : MOk m) (c : Bool) : MOk { m with auc := c } := ⟨h.b, h.s, h.w, h.sb, h.ss, h.addr, h.ids⟩
theorem ids_ne {m : M} (h : MOk m) {x y : R} (hx : x ∈ m.all) (hy : y ∈ m.all) (ne : x ≠ y) : x.o.id ≠ y.o.id := fun e => ne (nodup_inj h.ids hx hy e)
theorem addr_ne {m : M} (h : MOk m) {x y : R} (hx : x ∈ m.all) (hy : y ∈ m.all) (ne : x ≠ y) : x.a ≠ y.a := fun e => ne (nodup_inj h.addr hx hy e)
/-- the head taken out -/
theorem filter_ne {l : List R} {id : Nat} (h : ∀ r ∈ l, r.o.id ≠ id) : l.filter (fun r => r.o.id != id) = l := filter_all fun r hr => by simpa using h r hr
theorem nodup_parts {m : M} (h : MOk m) : (m.buys.map fun r => r.o.id).Nodup ∧ (m.sells.map fun r => r.o.id).Nodup ∧ (m.waits.map fun r => r.o.id).Nodup ∧
    (∀ x ∈ m.buys, ∀ y ∈ m.sells, x.o.id ≠ y.o.id) ∧ (∀ x ∈ m.buys, ∀ y ∈ m.waits, x.o.id ≠ y.o.id) ∧ (∀ x ∈ m.sells, ∀ y ∈ m.waits, x.o.id ≠ y.o.id) := by
  have hn := h.ids
  unfold M.all at hn
  rw [List.map_append, List.map_append] at hn
  obtain ⟨h1, h2, h3⟩ := List.nodup_append.mp hn
  obtain ⟨h4, h5, h6⟩ := List.nodup_append.mp h1
  refine ⟨h4, h5, h2, fun x hx y hy => ?_, fun x hx y hy => ?_, fun x hx y hy => ?_⟩
  · exact h6 _ (List.mem_map.mpr ⟨x, hx, rfl⟩) _ (List.mem_map.mpr ⟨y, hy, rfl⟩)
  · exact h3 _ (List.mem_append.mpr (.inl (List.mem_map.mpr ⟨x, hx, rfl⟩))) _ (List.mem_map.mpr ⟨y, hy, rfl⟩)
  · exact h3 _ (List.mem_append.mpr (.inr (List.mem_map.mpr ⟨x, hx, rfl⟩))) _ (List.mem_map.mpr ⟨y, hy, rfl⟩)
theorem del_head {m : M} (h : MOk m) {buy : Bool} {x : R} {l : List R} (e : m.side buy = x :: l) : delM x.o.id m = m.put buy l := by
  obtain ⟨n1, n2, n3, a1, a2, a3⟩ := nodup_parts h
  cases buy
  · have e : m.sells = x :: l := e
    have hx : x ∈ m.sells := by
      rw [e]
      exact List.mem_cons_self ..
    rw [e, List.map_cons] at n2
    have f1 : m.buys.filter (fun r => r.o.id != x.o.id) = m.buys := filter_ne fun r hr => a1 r hr x hx
    have f3 : m.waits.filter (fun r => r.o.id != x.o.id) = m.waits := filter_ne fun r hr => Ne.symm (a3 x hx r hr)
    have f2 : m.sells.filter (fun r => r.o.id != x.o.id) = l := by
      rw [e, List.filter_cons_of_neg (by simp)]
      exact filter_ne fun r hr z => (List.nodup_cons.mp n2).1 (z ▸ List.mem_map.mpr ⟨r, hr, rfl⟩)
    show M.mk _ _ _ _ _ = M.mk _ _ _ _ _
    rw [f1, f2, f3]
  · have e : m.buys = x :: l := e
    have hx : x ∈ m.buys := by
      rw [e]
      exact List.mem_cons_self ..
    rw [e, List.map_cons] at n1
    have f1 : m.sells.filter (fun r => r.o.id != x.o.id) = m.sells := filter_ne fun r hr => Ne.symm (a1 x hx r hr)
    have f3 : m.waits.filter (fun r => r.o.id != x.o.id) = m.waits := filter_ne fun r hr => Ne.symm (a2 x hx r hr)
    have f2 : m.buys.filter (fun r => r.o.id != x.o.id) = l := by
      rw [e, List.filter_cons_of_neg (by simp)]
      exact filter_ne fun r hr z => (List.nodup_cons.mp n1).1 (z ▸ List.mem_map.mpr ⟨r, hr, rfl⟩)
    show M.mk _ _ _ _ _ = M.mk _ _ _ _ _
    rw [f1, f2, f3]
def reA (a n : Nat) (r : R) : R := if r.a = a then setAm r n else r
theorem reA_am (a n : Nat) : AmOnly (reA a n) := by
  refine ⟨fun r => ?_, fun r => ?_, fun r => ?_, fun r => ?_, fun r => ?_, fun r => ?_⟩ <;> (unfold reA; split <;> rfl)
theorem map_reA_ne {a n : Nat} {l : List R} (h : ∀ r ∈ l, r.a ≠ a) : l.map (reA a n) = l := map_id_of fun r hr => by
  unfold reA
  rw [if_neg (h r hr)]
theorem addr_parts {m : M} (h : MOk m) : (m.buys.map fun r => r.a).Nodup ∧ (m.sells.map fun r => r.a).Nodup ∧ (m.waits.map fun r => r.a).Nodup ∧
    (∀ x ∈ m.buys, ∀ y ∈ m.sells, x.a ≠ y.a) ∧ (∀ x ∈ m.buys, ∀ y ∈ m.waits, x.a ≠ y.a) ∧ (∀ x ∈ m.sells, ∀ y ∈ m.waits, x.a ≠ y.a) := by
  have hn := h.addr
  unfold M.all at hn
  rw [List.map_append, List.map_append] at hn
  obtain ⟨h1, h2, h3⟩ := List.nodup_append.mp hn
  obtain ⟨h4, h5, h6⟩ := List.nodup_append.mp h1
  refine ⟨h4, h5, h2, fun x hx y hy => ?_, fun x hx y hy => ?_, fun x hx y hy => ?_⟩
  · exact h6 _ (List.mem_map.mpr ⟨x, hx, rfl⟩) _ (List.mem_map.mpr ⟨y, hy, rfl⟩)
  · exact h3 _ (List.mem_append.mpr (.inl (List.mem_map.mpr ⟨x, hx, rfl⟩))) _ (List.mem_map.mpr ⟨y, hy, rfl⟩)
  · exact h3 _ (List.mem_append.mpr (.inr (List.mem_map.mpr ⟨x, hx, rfl⟩))) _ (List.mem_map.mpr ⟨y, hy, rfl⟩)
theorem re_head {m : M} (h : MOk m) {buy : Bool} {x : R} {l : List R} (n : Nat) (e : m.side buy = x :: l) : mapM (reA x.a n) m = m.put buy (setAm x n :: l) := by
  obtain ⟨n1, n2, n3, a1, a2, a3⟩ := addr_parts h
  have eh : reA x.a n x = setAm x n := if_pos rfl
  cases buy
  · have e : m.sells = x :: l := e
    have hx : x ∈ m.sells := by
      rw [e]
      exact List.mem_cons_self ..
    rw [e, List.map_cons] at n2
    have f1 : m.buys.map (reA x.a n) = m.buys := map_reA_ne fun r hr => a1 r hr x hx
    have f2 : m.sells.map (reA x.a n) = setAm x n :: l := by
      rw [e, List.map_cons, eh]
      congr 1
      exact map_reA_ne fun r hr z => (List.nodup_cons.mp n2).1 (z ▸ List.mem_map.mpr ⟨r, hr, rfl⟩)
    show M.mk _ _ _ _ _ = M.mk _ _ _ _ _
    rw [f1, f2]
  · have e : m.buys = x :: l := e
    have hx : x ∈ m.buys := by
      rw [e]
      exact List.mem_cons_self ..
    rw [e, List.map_cons] at n1
    have f1 : m.sells.map (reA x.a n) = m.sells := map_reA_ne fun r hr => Ne.symm (a1 x hx r hr)
    have f2 : m.buys.map (reA x.a n) = setAm x n :: l := by
      rw [e, List.map_cons, eh]
      congr 1
      exact map_reA_ne fun r hr z => (List.nodup_cons.mp n1).1 (z ▸ List.mem_map.mpr ⟨r, hr, rfl⟩)
    show M.mk _ _ _ _ _ = M.mk _ _ _ _ _
    rw [f1, f2]
end SB
namespace SB
open PySem PySem.Spec PyProof.Rows L2
/-! ### how the program's objects lie in the heap -/
/-- an order's attributes, as __init__ sets them -/
def oF (x : W) : List (Str × V) := [("number", .int x.n), ("who", .int x.w), ("side", .int x.s), ("kind", .int x.k), ("price", .int x.p), ("amount", .int x.m), ("trigger", .int x.t)]
def OAt (C : Addr) (H : Hp) (a : Addr) (x : W) : Prop := ∃ dx, H a = some (.ins C dx (oF x))
theorem lk_at {k : Str} {v : V} {r : List (Str × V)} : List.lookup k ((k, v) :: r) = some v := by
  have e : (k == k) = true := beq_self_eq_true k
  simp only [List.lookup, e]
theorem lk_on {k g : Str} {v : V} {r : List (Str × V)} (h : (k == g) = false) : List.lookup k ((g, v) :: r) = List.lookup k r := by
  simp only [List.lookup, h]
theorem pt_at {f : Str} {v x : V} {r : List (Str × V)} : putF f v ((f, x) :: r) = (f, v) :: r := if_pos rfl
theorem pt_on {f g : Str} {v x : V} {r : List (Str × V)} (h : ¬ g = f) : putF f v ((g, x) :: r) = (g, x) :: putF f v r := if_neg h
theorem oF_number (x : W) : (oF x).lookup ("number" : Str) = some (.int x.n) := lk_at
theorem oF_who (x : W) : (oF x).lookup ("who" : Str) = some (.int x.w) := ((lk_on (by decide +kernel)).trans lk_at)
theorem oF_side (x : W) : (oF x).lookup ("side" : Str) = some (.int x.s) := ((lk_on (by decide +kernel)).trans ((lk_on (by decide +kernel)).trans lk_at))
theorem oF_kind (x : W) : (oF x).lookup ("kind" : Str) = some (.int x.k) := ((lk_on (by decide +kernel)).trans ((lk_on (by decide +kernel)).trans ((lk_on (by decide +kernel)).trans lk_at)))
theorem oF_price (x : W) : (oF x).lookup ("price" : Str) = some (.int x.p) := ((lk_on (by decide +kernel)).trans ((lk_on (by decide +kernel)).trans ((lk_on (by decide +kernel)).trans ((lk_on (by decide +kernel)).trans lk_at))))
theorem oF_amount (x : W) : (oF x).lookup ("amount" : Str) = some (.int x.m) := ((lk_on (by decide +kernel)).trans ((lk_on (by decide +kernel)).trans ((lk_on (by decide +kernel)).trans ((lk_on (by decide +kernel)).trans ((lk_on (by decide +kernel)).trans lk_at)))))
theorem oF_trigger (x : W) : (oF x).lookup ("trigger" : Str) = some (.int x.t) := ((lk_on (by decide +kernel)).trans ((lk_on (by decide +kernel)).trans ((lk_on (by decide +kernel)).trans ((lk_on (by decide +kernel)).trans ((lk_on (by decide +kernel)).trans ((lk_on (by decide +kernel)).trans lk_at))))))
theorem oF_put_number (x : W) (y : Int) : putF "number" (.int y) (oF x) = oF { x with n := y } := pt_at
theorem oF_put_who (x : W) (y : Int) : putF "who" (.int y) (oF x) = oF { x with w := y } := ((pt_on (by decide +kernel)).trans (congrArg _ pt_at))
theorem oF_put_side (x : W) (y : Int) : putF "side" (.int y) (oF x) = oF { x with s := y } := ((pt_on (by decide +kernel)).trans (congrArg _ ((pt_on (by decide +kernel)).trans (congrArg _ pt_at))))
theorem oF_put_kind (x : W) (y : Int) : putF "kind" (.int y) (oF x) = oF { x with k := y } := ((pt_on (by decide +kernel)).trans (congrArg _ ((pt_on (by decide +kernel)).trans (congrArg _ ((pt_on (by decide +kernel)).trans (congrArg _ pt_at))))))
theorem oF_put_price (x : W) (y : Int) : putF "price" (.int y) (oF x) = oF { x with p := y } := ((pt_on (by decide +kernel)).trans (congrArg _ ((pt_on (by decide +kernel)).trans (congrArg _ ((pt_on (by decide +kernel)).trans (congrArg _ ((pt_on (by decide +kernel)).trans (congrArg _ pt_at))))))))
theorem oF_put_amount (x : W) (y : Int) : putF "amount" (.int y) (oF x) = oF { x with m := y } := ((pt_on (by decide +kernel)).trans (congrArg _ ((pt_on (by decide +kernel)).trans (congrArg _ ((pt_on (by decide +kernel)).trans (congrArg _ ((pt_on (by decide +kernel)).trans (congrArg _ ((pt_on (by decide +kernel)).trans (congrArg _ pt_at))))))))))
theorem oF_put_trigger (x : W) (y : Int) : putF "trigger" (.int y) (oF x) = oF { x with t := y } := ((pt_on (by decide +kernel)).trans (congrArg _ ((pt_on (by decide +kernel)).trans (congrArg _ ((pt_on (by decide +kernel)).trans (congrArg _ ((pt_on (by decide +kernel)).trans (congrArg _ ((pt_on (by decide +kernel)).trans (congrArg _ ((pt_on (by decide +kernel)).trans (congrArg _ pt_at))))))))))))
theorem oF_len (x : W) : (oF x).length = 7 := rfl
theorem oF_new (n s k p m t z : Int) : putF "trigger" (.int t) (putF "amount" (.int m) (putF "price" (.int p) (putF "kind" (.int k) (putF "side" (.int s) (putF "who" (.int z) (putF "number" (.int n) [])))))) = oF ⟨n, z, s, k, p, m, t⟩ := by
  have e : putF "number" (.int n) [] = ([("number", .int n)] : List (Str × V)) := rfl
  rw [e]
  have e1 : putF "who" (.int z) ([("number", .int n)] : List (Str × V)) = ([("number", .int n), ("who", .int z)] : List (Str × V)) := ((pt_on (by decide +kernel)).trans (congrArg _ rfl))
  rw [e1]
  have e2 : putF "side" (.int s) ([("number", .int n), ("who", .int z)] : List (Str × V)) = ([("number", .int n), ("who", .int z), ("side", .int s)] : List (Str × V)) := ((pt_on (by decide +kernel)).trans (congrArg _ ((pt_on (by decide +kernel)).trans (congrArg _ rfl))))
  rw [e2]
  have e3 : putF "kind" (.int k) ([("number", .int n), ("who", .int z), ("side", .int s)] : List (Str × V)) = ([("number", .int n), ("who", .int z), ("side", .int s), ("kind", .int k)] : List (Str × V)) := ((pt_on (by decide +kernel)).trans (congrArg _ ((pt_on (by decide +kernel)).trans (congrArg _ ((pt_on (by decide +kernel)).trans (congrArg _ rfl))))))
  rw [e3]
  have e4 : putF "price" (.int p) ([("number", .int n), ("who", .int z), ("side", .int s), ("kind", .int k)] : List (Str × V)) = ([("number", .int n), ("who", .int z), ("side", .int s), ("kind", .int k), ("price", .int p)] : List (Str × V)) := ((pt_on (by decide +kernel)).trans (congrArg _ ((pt_on (by decide +kernel)).trans (congrArg _ ((pt_on (by decide +kernel)).trans (congrArg _ ((pt_on (by decide +kernel)).trans (congrArg _ rfl))))))))
  rw [e4]
  have e5 : putF "amount" (.int m) ([("number", .int n), ("who", .int z), ("side", .int s), ("kind", .int k), ("price", .int p)] : List (Str × V)) = ([("number", .int n), ("who", .int z), ("side", .int s), ("kind", .int k), ("price", .int p), ("amount", .int m)] : List (Str × V)) := ((pt_on (by decide +kernel)).trans (congrArg _ ((pt_on (by decide +kernel)).trans (congrArg _ ((pt_on (by decide +kernel)).trans (congrArg _ ((pt_on (by decide +kernel)).trans (congrArg _ ((pt_on (by decide +kernel)).trans (congrArg _ rfl))))))))))
  rw [e5]
  have e6 : putF "trigger" (.int t) ([("number", .int n), ("who", .int z), ("side", .int s), ("kind", .int k), ("price", .int p), ("amount", .int m)] : List (Str × V)) = ([("number", .int n), ("who", .int z), ("side", .int s), ("kind", .int k), ("price", .int p), ("amount", .int m), ("trigger", .int t)] : List (Str × V)) := ((pt_on (by decide +kernel)).trans (congrArg _ ((pt_on (by decide +kernel)).trans (congrArg _ ((pt_on (by decide +kernel)).trans (congrArg _ ((pt_on (by decide +kernel)).trans (congrArg _ ((pt_on (by decide +kernel)).trans (congrArg _ ((pt_on (by decide +kernel)).trans (congrArg _ rfl))))))))))))
  rw [e6]
  rfl
/-- where the book's parts lie -/
structure Lay where
  bk : Addr
  tl : Addr
  lb : Addr
  ls : Addr
  wl : Addr
  kd : Addr
  ev : Addr
def bF (L : Lay) (la : Nat) (c : Bool) : List (Str × V) := [("lines", .ref L.tl), ("waiting", .ref L.wl), ("known", .ref L.kd), ("latest", .int (la : Int)), ("in_auction", .bl c), ("events", .ref L.ev)]
theorem bF_lines (L : Lay) (la : Nat) (c : Bool) : (bF L la c).lookup ("lines" : Str) = some (.ref L.tl) := lk_at
theorem bF_waiting (L : Lay) (la : Nat) (c : Bool) : (bF L la c).lookup ("waiting" : Str) = some (.ref L.wl) := ((lk_on (by decide +kernel)).trans lk_at)
theorem bF_known (L : Lay) (la : Nat) (c : Bool) : (bF L la c).lookup ("known" : Str) = some (.ref L.kd) := ((lk_on (by decide +kernel)).trans ((lk_on (by decide +kernel)).trans lk_at))
theorem bF_latest (L : Lay) (la : Nat) (c : Bool) : (bF L la c).lookup ("latest" : Str) = some (.int (la : Int)) := ((lk_on (by decide +kernel)).trans ((lk_on (by decide +kernel)).trans ((lk_on (by decide +kernel)).trans lk_at)))
theorem bF_in_auction (L : Lay) (la : Nat) (c : Bool) : (bF L la c).lookup ("in_auction" : Str) = some (.bl c) := ((lk_on (by decide +kernel)).trans ((lk_on (by decide +kernel)).trans ((lk_on (by decide +kernel)).trans ((lk_on (by decide +kernel)).trans lk_at))))
theorem bF_events (L : Lay) (la : Nat) (c : Bool) : (bF L la c).lookup ("events" : Str) = some (.ref L.ev) := ((lk_on (by decide +kernel)).trans ((lk_on (by decide +kernel)).trans ((lk_on (by decide +kernel)).trans ((lk_on (by decide +kernel)).trans ((lk_on (by decide +kernel)).trans lk_at)))))
theorem bF_put_latest (L : Lay) (la : Nat) (c : Bool) (y : Nat) : putF "latest" (.int (y : Int)) (bF L la c) = bF L y c := ((pt_on (by decide +kernel)).trans (congrArg _ ((pt_on (by decide +kernel)).trans (congrArg _ ((pt_on (by decide +kernel)).trans (congrArg _ pt_at))))))
theorem bF_put_in_auction (L : Lay) (la : Nat) (c : Bool) (y : Bool) : putF "in_auction" (.bl y) (bF L la c) = bF L la y := ((pt_on (by decide +kernel)).trans (congrArg _ ((pt_on (by decide +kernel)).trans (congrArg _ ((pt_on (by decide +kernel)).trans (congrArg _ ((pt_on (by decide +kernel)).trans (congrArg _ pt_at))))))))
theorem bF_put_events (L : Lay) (la : Nat) (c : Bool) (y : Addr) : putF "events" (.ref y) (bF L la c) = bF { L with ev := y } la c := ((pt_on (by decide +kernel)).trans (congrArg _ ((pt_on (by decide +kernel)).trans (congrArg _ ((pt_on (by decide +kernel)).trans (congrArg _ ((pt_on (by decide +kernel)).trans (congrArg _ ((pt_on (by decide +kernel)).trans (congrArg _ pt_at))))))))))
theorem bF_len (L : Lay) (la : Nat) (c : Bool) : (bF L la c).length = 6 := rfl
theorem bF_no_take_order (L : Lay) (la : Nat) (c : Bool) : (bF L la c).lookup ("take_order" : Str) = none := ((lk_on (by decide +kernel)).trans ((lk_on (by decide +kernel)).trans ((lk_on (by decide +kernel)).trans ((lk_on (by decide +kernel)).trans ((lk_on (by decide +kernel)).trans ((lk_on (by decide +kernel)).trans rfl))))))
theorem bF_no_cancel (L : Lay) (la : Nat) (c : Bool) : (bF L la c).lookup ("cancel" : Str) = none := ((lk_on (by decide +kernel)).trans ((lk_on (by decide +kernel)).trans ((lk_on (by decide +kernel)).trans ((lk_on (by decide +kernel)).trans ((lk_on (by decide +kernel)).trans ((lk_on (by decide +kernel)).trans rfl))))))
theorem bF_no_change (L : Lay) (la : Nat) (c : Bool) : (bF L la c).lookup ("change" : Str) = none := ((lk_on (by decide +kernel)).trans ((lk_on (by decide +kernel)).trans ((lk_on (by decide +kernel)).trans ((lk_on (by decide +kernel)).trans ((lk_on (by decide +kernel)).trans ((lk_on (by decide +kernel)).trans rfl))))))
theorem bF_no_auction (L : Lay) (la : Nat) (c : Bool) : (bF L la c).lookup ("auction" : Str) = none := ((lk_on (by decide +kernel)).trans ((lk_on (by decide +kernel)).trans ((lk_on (by decide +kernel)).trans ((lk_on (by decide +kernel)).trans ((lk_on (by decide +kernel)).trans ((lk_on (by decide +kernel)).trans rfl))))))
theorem bF_no_look (L : Lay) (la : Nat) (c : Bool) : (bF L la c).lookup ("look" : Str) = none := ((lk_on (by decide +kernel)).trans ((lk_on (by decide +kernel)).trans ((lk_on (by decide +kernel)).trans ((lk_on (by decide +kernel)).trans ((lk_on (by decide +kernel)).trans ((lk_on (by decide +kernel)).trans rfl))))))
theorem bF_no_tell (L : Lay) (la : Nat) (c : Bool) : (bF L la c).lookup ("tell" : Str) = none := ((lk_on (by decide +kernel)).trans ((lk_on (by decide +kernel)).trans ((lk_on (by decide +kernel)).trans ((lk_on (by decide +kernel)).trans ((lk_on (by decide +kernel)).trans ((lk_on (by decide +kernel)).trans rfl))))))
theorem bF_no_answer (L : Lay) (la : Nat) (c : Bool) : (bF L la c).lookup ("answer" : Str) = none := ((lk_on (by decide +kernel)).trans ((lk_on (by decide +kernel)).trans ((lk_on (by decide +kernel)).trans ((lk_on (by decide +kernel)).trans ((lk_on (by decide +kernel)).trans ((lk_on (by decide +kernel)).trans rfl))))))
theorem bF_no_end (L : Lay) (la : Nat) (c : Bool) : (bF L la c).lookup ("end" : Str) = none := ((lk_on (by decide +kernel)).trans ((lk_on (by decide +kernel)).trans ((lk_on (by decide +kernel)).trans ((lk_on (by decide +kernel)).trans ((lk_on (by decide +kernel)).trans ((lk_on (by decide +kernel)).trans rfl))))))
theorem bF_no_rest (L : Lay) (la : Nat) (c : Bool) : (bF L la c).lookup ("rest" : Str) = none := ((lk_on (by decide +kernel)).trans ((lk_on (by decide +kernel)).trans ((lk_on (by decide +kernel)).trans ((lk_on (by decide +kernel)).trans ((lk_on (by decide +kernel)).trans ((lk_on (by decide +kernel)).trans rfl))))))
theorem bF_no_take_out (L : Lay) (la : Nat) (c : Bool) : (bF L la c).lookup ("take_out" : Str) = none := ((lk_on (by decide +kernel)).trans ((lk_on (by decide +kernel)).trans ((lk_on (by decide +kernel)).trans ((lk_on (by decide +kernel)).trans ((lk_on (by decide +kernel)).trans ((lk_on (by decide +kernel)).trans rfl))))))
theorem bF_no_take_out_if_empty (L : Lay) (la : Nat) (c : Bool) : (bF L la c).lookup ("take_out_if_empty" : Str) = none := ((lk_on (by decide +kernel)).trans ((lk_on (by decide +kernel)).trans ((lk_on (by decide +kernel)).trans ((lk_on (by decide +kernel)).trans ((lk_on (by decide +kernel)).trans ((lk_on (by decide +kernel)).trans rfl))))))
theorem bF_no_wait (L : Lay) (la : Nat) (c : Bool) : (bF L la c).lookup ("wait" : Str) = none := ((lk_on (by decide +kernel)).trans ((lk_on (by decide +kernel)).trans ((lk_on (by decide +kernel)).trans ((lk_on (by decide +kernel)).trans ((lk_on (by decide +kernel)).trans ((lk_on (by decide +kernel)).trans rfl))))))
theorem bF_no_arrive (L : Lay) (la : Nat) (c : Bool) : (bF L la c).lookup ("arrive" : Str) = none := ((lk_on (by decide +kernel)).trans ((lk_on (by decide +kernel)).trans ((lk_on (by decide +kernel)).trans ((lk_on (by decide +kernel)).trans ((lk_on (by decide +kernel)).trans ((lk_on (by decide +kernel)).trans rfl))))))
theorem bF_no_come (L : Lay) (la : Nat) (c : Bool) : (bF L la c).lookup ("come" : Str) = none := ((lk_on (by decide +kernel)).trans ((lk_on (by decide +kernel)).trans ((lk_on (by decide +kernel)).trans ((lk_on (by decide +kernel)).trans ((lk_on (by decide +kernel)).trans ((lk_on (by decide +kernel)).trans rfl))))))
theorem bF_no_other_line (L : Lay) (la : Nat) (c : Bool) : (bF L la c).lookup ("other_line" : Str) = none := ((lk_on (by decide +kernel)).trans ((lk_on (by decide +kernel)).trans ((lk_on (by decide +kernel)).trans ((lk_on (by decide +kernel)).trans ((lk_on (by decide +kernel)).trans ((lk_on (by decide +kernel)).trans rfl))))))
theorem bF_no_can_trade (L : Lay) (la : Nat) (c : Bool) : (bF L la c).lookup ("can_trade" : Str) = none := ((lk_on (by decide +kernel)).trans ((lk_on (by decide +kernel)).trans ((lk_on (by decide +kernel)).trans ((lk_on (by decide +kernel)).trans ((lk_on (by decide +kernel)).trans ((lk_on (by decide +kernel)).trans rfl))))))
theorem bF_no_offered_by_others (L : Lay) (la : Nat) (c : Bool) : (bF L la c).lookup ("offered_by_others" : Str) = none := ((lk_on (by decide +kernel)).trans ((lk_on (by decide +kernel)).trans ((lk_on (by decide +kernel)).trans ((lk_on (by decide +kernel)).trans ((lk_on (by decide +kernel)).trans ((lk_on (by decide +kernel)).trans rfl))))))
theorem bF_no_trade (L : Lay) (la : Nat) (c : Bool) : (bF L la c).lookup ("trade" : Str) = none := ((lk_on (by decide +kernel)).trans ((lk_on (by decide +kernel)).trans ((lk_on (by decide +kernel)).trans ((lk_on (by decide +kernel)).trans ((lk_on (by decide +kernel)).trans ((lk_on (by decide +kernel)).trans rfl))))))
theorem bF_no_exchange (L : Lay) (la : Nat) (c : Bool) : (bF L la c).lookup ("exchange" : Str) = none := ((lk_on (by decide +kernel)).trans ((lk_on (by decide +kernel)).trans ((lk_on (by decide +kernel)).trans ((lk_on (by decide +kernel)).trans ((lk_on (by decide +kernel)).trans ((lk_on (by decide +kernel)).trans rfl))))))
theorem bF_no_settle (L : Lay) (la : Nat) (c : Bool) : (bF L la c).lookup ("settle" : Str) = none := ((lk_on (by decide +kernel)).trans ((lk_on (by decide +kernel)).trans ((lk_on (by decide +kernel)).trans ((lk_on (by decide +kernel)).trans ((lk_on (by decide +kernel)).trans ((lk_on (by decide +kernel)).trans rfl))))))
theorem bF_no_trigger_stops (L : Lay) (la : Nat) (c : Bool) : (bF L la c).lookup ("trigger_stops" : Str) = none := ((lk_on (by decide +kernel)).trans ((lk_on (by decide +kernel)).trans ((lk_on (by decide +kernel)).trans ((lk_on (by decide +kernel)).trans ((lk_on (by decide +kernel)).trans ((lk_on (by decide +kernel)).trans rfl))))))
theorem bF_no_take_triggered (L : Lay) (la : Nat) (c : Bool) : (bF L la c).lookup ("take_triggered" : Str) = none := ((lk_on (by decide +kernel)).trans ((lk_on (by decide +kernel)).trans ((lk_on (by decide +kernel)).trans ((lk_on (by decide +kernel)).trans ((lk_on (by decide +kernel)).trans ((lk_on (by decide +kernel)).trans rfl))))))
theorem bF_no_price_of_auction (L : Lay) (la : Nat) (c : Bool) : (bF L la c).lookup ("price_of_auction" : Str) = none := ((lk_on (by decide +kernel)).trans ((lk_on (by decide +kernel)).trans ((lk_on (by decide +kernel)).trans ((lk_on (by decide +kernel)).trans ((lk_on (by decide +kernel)).trans ((lk_on (by decide +kernel)).trans rfl))))))
theorem bF_no_trade_auction (L : Lay) (la : Nat) (c : Bool) : (bF L la c).lookup ("trade_auction" : Str) = none := ((lk_on (by decide +kernel)).trans ((lk_on (by decide +kernel)).trans ((lk_on (by decide +kernel)).trans ((lk_on (by decide +kernel)).trans ((lk_on (by decide +kernel)).trans ((lk_on (by decide +kernel)).trans rfl))))))
theorem bF_no_both_accept (L : Lay) (la : Nat) (c : Bool) : (bF L la c).lookup ("both_accept" : Str) = none := ((lk_on (by decide +kernel)).trans ((lk_on (by decide +kernel)).trans ((lk_on (by decide +kernel)).trans ((lk_on (by decide +kernel)).trans ((lk_on (by decide +kernel)).trans ((lk_on (by decide +kernel)).trans rfl))))))
theorem oF_inj {x y : W} : (oF x = oF y) = (x = y) := by
  refine propext ⟨fun h => ?_, fun h => h ▸ rfl⟩
  obtain ⟨n, z, s, k, p, m, t⟩ := x
  obtain ⟨n2, z2, s2, k2, p2, m2, t2⟩ := y
  unfold oF at h
  simp only [List.cons.injEq, Prod.mk.injEq, V.int.injEq, true_and, and_true] at h
  obtain ⟨h1, h2, h3, h4, h5, h6, h7⟩ := h
  subst h1 h2 h3 h4 h5 h6 h7
  rfl
theorem x_eq {i j : Int} {H : Hp} {Q : VK} : rEq (.int i) (.int j) H Q = Q (.bl (decide (i = j))) H := by
  have e : decide (V.int i = V.int j) = decide (i = j) := by
    rw [decide_eq_decide]
    exact ⟨fun h => V.int.inj h, fun h => h ▸ rfl⟩
  show (true = true ∧ Q (.bl (decide (V.int i = V.int j))) H) = _
  rw [e]
  simp
theorem x_ne {i j : Int} {H : Hp} {Q : VK} : rNe (.int i) (.int j) H Q = Q (.bl (!decide (i = j))) H := by
  have e : decide (V.int i = V.int j) = decide (i = j) := by
    rw [decide_eq_decide]
    exact ⟨fun h => V.int.inj h, fun h => h ▸ rfl⟩
  show (true = true ∧ Q (.bl (!decide (V.int i = V.int j))) H) = _
  rw [e]
  simp
end SB
namespace SB
open PySem PySem.Spec PyProof.Rows L2
section
variable {P : Program} {w : World} {K : PySem.W.Frag} {mg : Str → Option Value} {base : Heap} {CO CB : Addr}
/-! ### what is asked of one order alone -/
def spHasPrice (CO : Addr) : Sp := fun vs H Q _ => ∃ a dx x, vs = [.ref a] ∧ H a = some (.ins CO dx (oF x)) ∧ Q (.bl (priced x.k)) H
def spIsStop (CO : Addr) : Sp := fun vs H Q _ => ∃ a dx x, vs = [.ref a] ∧ H a = some (.ins CO dx (oF x)) ∧ Q (.bl (stopK x.k)) H
def spInRange : Sp := fun vs H Q _ => ∃ z : Int, vs = [.int z] ∧ Q (.bl (inR z)) H
def spAsTold (CO : Addr) : Sp := fun vs H Q _ => ∃ a dx x, vs = [.ref a] ∧ H a = some (.ins CO dx (oF x)) ∧ Q (.bl (asTold x)) H
def accW (x : W) (p : Int) : Bool := if x.k = 1 then true else if x.s = 0 then decide (p ≤ x.p) else decide (x.p ≤ p)
def spAccepts (CO : Addr) : Sp := fun vs H Q _ => ∃ a dx x p, vs = [.ref a, .int p] ∧ H a = some (.ins CO dx (oF x)) ∧ Q (.bl (accW x p)) H
def trigW (x : W) (la : Int) : Bool := if la = 0 then false else if x.s = 0 then decide (x.t ≤ la) else decide (la ≤ x.t)
def spIsTriggered (CO : Addr) : Sp := fun vs H Q _ => ∃ a dx x la, vs = [.ref a, .int la] ∧ H a = some (.ins CO dx (oF x)) ∧ Q (.bl (trigW x la)) H
def betW (x y : W) : Bool := if x.s = 0 then decide (y.p < x.p) else decide (x.p < y.p)
def spIsBetter (CO : Addr) : Sp := fun vs H Q _ => ∃ a dx x c dy y, vs = [.ref a, .ref c] ∧ H a = some (.ins CO dx (oF x)) ∧ H c = some (.ins CO dy (oF y)) ∧ Q (.bl (betW x y)) H
theorem ln_has_price {vs : List V} {H : Hp} {Q : VK} {E : XK} (h : spHasPrice CO vs H Q E) : vs.length = 1 := by
  obtain ⟨a, dx, x, rfl, _⟩ := h
  rfl
theorem ln_is_stop {vs : List V} {H : Hp} {Q : VK} {E : XK} (h : spIsStop CO vs H Q E) : vs.length = 1 := by
  obtain ⟨a, dx, x, rfl, _⟩ := h
  rfl
theorem ln_is_in_range {vs : List V} {H : Hp} {Q : VK} {E : XK} (h : spInRange vs H Q E) : vs.length = 1 := by
  obtain ⟨z, rfl, _⟩ := h
  rfl
theorem ln_is_as_told {vs : List V} {H : Hp} {Q : VK} {E : XK} (h : spAsTold CO vs H Q E) : vs.length = 1 := by
  obtain ⟨a, dx, x, rfl, _⟩ := h
  rfl
theorem ln_accepts {vs : List V} {H : Hp} {Q : VK} {E : XK} (h : spAccepts CO vs H Q E) : vs.length = 2 := by
  obtain ⟨a, dx, x, p, rfl, _⟩ := h
  rfl
theorem ln_is_triggered {vs : List V} {H : Hp} {Q : VK} {E : XK} (h : spIsTriggered CO vs H Q E) : vs.length = 2 := by
  obtain ⟨a, dx, x, p, rfl, _⟩ := h
  rfl
theorem ln_is_better {vs : List V} {H : Hp} {Q : VK} {E : XK} (h : spIsBetter CO vs H Q E) : vs.length = 2 := by
  obtain ⟨a, dx, x, c, dy, y, rfl, _⟩ := h
  rfl
theorem ok_has_price {f : Addr} {fd : FuncData} (F : Fun K "has_price" "has_price" s_has_price f fd) (T : Txt K mg CO CB)  : FnOk P w K mg base CX0 1 f fd ["order"] (spHasPrice CO) := by
  refine F.ok sc_has_price (fun vs H Q E h => ln_has_price h) (fun cdv A outer s H vs Q E hr h => ?_)
  have hu := hu_of hr
  refine ⟨_, (pss_one (ps_ret (pe_and (pe_cmpR op_ne (pe_fld (pv 0) rfl) (pg_int rfl T.c_MARKET) (nomark _)) (pe_one (pe_cmpR op_ne (pe_fld (pv 0) rfl) (pg_int rfl T.c_STOP) (nomark _)))))), ?_⟩

  obtain ⟨a, dx, x, rfl, hx, q⟩ := h
  rw [show L2.start ["order"] [V.ref a] = [some (.ref a)] from rfl]
  simp only [cxOf, Cx.nox, tSeq, tNext, tRet, tRetN, tDrop, tIfS, tVar, tC, tOp, tUn, tTest, tB, tAnd, tOr, tNot, tAndV, tOrV, tNotV, tIf, tFld, sFld, sFldAug, tAsg, gName, tAug, tCons, tNil, tCB, tCall, tMeth, tChain, rI0, rU, L2.rAdd, L2.rSub, ipI, List.getElem?_cons_zero, List.getElem?_cons_succ, List.set_cons_zero, List.set_cons_succ, Option.some.injEq, exists_eq_left', exists_eq_left, V.ref.injEq, V.int.injEq, V.bl.injEq, HO.ins.injEq, and_assoc, true_and, and_true, exists_and_left, List.cons.injEq, List.append_nil, List.cons_append, List.nil_append, x_eq, x_ne, oF_inj, if_true, if_false, Bool.false_eq_true, ite_true, ite_false, eq_self_iff_true, T.clO, T.nO_number, T.nO_who, T.nO_side, T.nO_kind, T.nO_price, T.nO_amount, T.nO_trigger, oF_number, oF_who, oF_side, oF_kind, oF_price, oF_amount, oF_trigger, oF_put_number, oF_put_who, oF_put_side, oF_put_kind, oF_put_price, oF_put_amount, oF_put_trigger, T.clB, T.nB_lines, T.nB_waiting, T.nB_known, T.nB_latest, T.nB_in_auction, T.nB_events, bF_lines, bF_waiting, bF_known, bF_latest, bF_in_auction, bF_events, bF_put_latest, bF_put_in_auction, bF_put_events, hx]
  revert q
  unfold priced
  generalize decide (x.k = 1) = c0
  generalize decide (x.k = 5) = c1
  cases c0 <;> cases c1 <;> exact fun q => q
theorem ok_is_stop {f : Addr} {fd : FuncData} (F : Fun K "is_stop" "is_stop" s_is_stop f fd) (T : Txt K mg CO CB)  : FnOk P w K mg base CX0 1 f fd ["order"] (spIsStop CO) := by
  refine F.ok sc_is_stop (fun vs H Q E h => ln_is_stop h) (fun cdv A outer s H vs Q E hr h => ?_)
  have hu := hu_of hr
  refine ⟨_, (pss_one (ps_ret (pe_or (pe_cmpR op_eq (pe_fld (pv 0) rfl) (pg_int rfl T.c_STOP) (nomark _)) (pe_one (pe_cmpR op_eq (pe_fld (pv 0) rfl) (pg_int rfl T.c_STOP_WITH_LIMIT) (nomark _)))))), ?_⟩

  obtain ⟨a, dx, x, rfl, hx, q⟩ := h
  rw [show L2.start ["order"] [V.ref a] = [some (.ref a)] from rfl]
  simp only [cxOf, Cx.nox, tSeq, tNext, tRet, tRetN, tDrop, tIfS, tVar, tC, tOp, tUn, tTest, tB, tAnd, tOr, tNot, tAndV, tOrV, tNotV, tIf, tFld, sFld, sFldAug, tAsg, gName, tAug, tCons, tNil, tCB, tCall, tMeth, tChain, rI0, rU, L2.rAdd, L2.rSub, ipI, List.getElem?_cons_zero, List.getElem?_cons_succ, List.set_cons_zero, List.set_cons_succ, Option.some.injEq, exists_eq_left', exists_eq_left, V.ref.injEq, V.int.injEq, V.bl.injEq, HO.ins.injEq, and_assoc, true_and, and_true, exists_and_left, List.cons.injEq, List.append_nil, List.cons_append, List.nil_append, x_eq, x_ne, oF_inj, if_true, if_false, Bool.false_eq_true, ite_true, ite_false, eq_self_iff_true, T.clO, T.nO_number, T.nO_who, T.nO_side, T.nO_kind, T.nO_price, T.nO_amount, T.nO_trigger, oF_number, oF_who, oF_side, oF_kind, oF_price, oF_amount, oF_trigger, oF_put_number, oF_put_who, oF_put_side, oF_put_kind, oF_put_price, oF_put_amount, oF_put_trigger, T.clB, T.nB_lines, T.nB_waiting, T.nB_known, T.nB_latest, T.nB_in_auction, T.nB_events, bF_lines, bF_waiting, bF_known, bF_latest, bF_in_auction, bF_events, bF_put_latest, bF_put_in_auction, bF_put_events, hx]
  revert q
  unfold stopK
  generalize decide (x.k = 5) = c0
  generalize decide (x.k = 6) = c1
  cases c0 <;> cases c1 <;> exact fun q => q
theorem ok_is_in_range {f : Addr} {fd : FuncData} (F : Fun K "is_in_range" "is_in_range" s_is_in_range f fd) (T : Txt K mg CO CB)  : FnOk P w K mg base CX0 1 f fd ["number"] spInRange := by
  refine F.ok sc_is_in_range (fun vs H Q E h => ln_is_in_range h) (fun cdv A outer s H vs Q E hr h => ?_)
  have hu := hu_of hr
  refine ⟨_, (pss_one (ps_ret (pe_chain op_le op_le pe_int (pv 0) (pg_int rfl T.c_LARGEST)))), ?_⟩

  obtain ⟨z, rfl, q⟩ := h
  rw [show L2.start ["number"] [V.int z] = [some (.int z)] from rfl]
  simp only [cxOf, Cx.nox, tSeq, tNext, tRet, tRetN, tDrop, tIfS, tVar, tC, tOp, tUn, tTest, tB, tAnd, tOr, tNot, tAndV, tOrV, tNotV, tIf, tFld, sFld, sFldAug, tAsg, gName, tAug, tCons, tNil, tCB, tCall, tMeth, tChain, rI0, rU, L2.rAdd, L2.rSub, ipI, List.getElem?_cons_zero, List.getElem?_cons_succ, List.set_cons_zero, List.set_cons_succ, Option.some.injEq, exists_eq_left', exists_eq_left, V.ref.injEq, V.int.injEq, V.bl.injEq, HO.ins.injEq, and_assoc, true_and, and_true, exists_and_left, List.cons.injEq, List.append_nil, List.cons_append, List.nil_append, x_eq, x_ne, oF_inj, if_true, if_false, Bool.false_eq_true, ite_true, ite_false, eq_self_iff_true, T.clO, T.nO_number, T.nO_who, T.nO_side, T.nO_kind, T.nO_price, T.nO_amount, T.nO_trigger, oF_number, oF_who, oF_side, oF_kind, oF_price, oF_amount, oF_trigger, oF_put_number, oF_put_who, oF_put_side, oF_put_kind, oF_put_price, oF_put_amount, oF_put_trigger, T.clB, T.nB_lines, T.nB_waiting, T.nB_known, T.nB_latest, T.nB_in_auction, T.nB_events, bF_lines, bF_waiting, bF_known, bF_latest, bF_in_auction, bF_events, bF_put_latest, bF_put_in_auction, bF_put_events]
  revert q
  unfold inR
  generalize decide (1 ≤ z) = c0
  generalize decide (z ≤ 1000000) = c1
  cases c0 <;> cases c1 <;> exact fun q => q
theorem ok_is_as_told {f : Addr} {fd : FuncData} (F : Fun K "is_as_told" "is_as_told" s_is_as_told f fd) (T : Txt K mg CO CB) {f_is_in_range : Addr} {d_is_in_range : FuncData} (G_is_in_range : Gd P w K mg base 1 "is_in_range" f_is_in_range d_is_in_range ["number"] spInRange) {f_has_price : Addr} {d_has_price : FuncData} (G_has_price : Gd P w K mg base 1 "has_price" f_has_price d_has_price ["order"] (spHasPrice CO)) {f_is_stop : Addr} {d_is_stop : FuncData} (G_is_stop : Gd P w K mg base 1 "is_stop" f_is_stop d_is_stop ["order"] (spIsStop CO)) : FnOk P w K mg base CX0 2 f fd ["order"] (spAsTold CO) := by
  refine F.ok sc_is_as_told (fun vs H Q E h => ln_is_as_told h) (fun cdv A outer s H vs Q E hr h => ?_)
  have hu := hu_of hr
  refine ⟨_, (pss_cons (ps_if (PW.pt (pw_or (pt_cmpR op_lt (pe_fld (pv 0) rfl) pe_int (nomark _)) (pw_or1 (pt_not (pt_chain op_le op_le pe_int (pe_fld (pv 0) rfl) (pg_int rfl T.c_LARGEST_PERSON))))))
      (pss_one (ps_ret pe_bl))
      pss_nil)
    (pss_cons (ps_if (PW.pt (pw_or (pt_not (pt_chain op_le op_le (pg_int rfl T.c_BUYS) (pe_fld (pv 0) rfl) (pg_int rfl T.c_SELLS))) (pw_or1 (pt_not (pt_chain op_le op_le (pg_int rfl T.c_LIMIT) (pe_fld (pv 0) rfl) (pg_int rfl T.c_STOP_WITH_LIMIT))))))
      (pss_one (ps_ret pe_bl))
      pss_nil)
    (pss_cons (ps_if (PW.pt (pw_and (pt_val (pe_call G_has_price.ok (hr.mono (by decide)) rfl G_has_price.mg G_has_price.kp G_has_price.b .nil pass0 (pa_cons (pv 0) pa_nil))) (pw_and1 (pt_not (pt_val (pe_call G_is_in_range.ok (hr.mono (by decide)) rfl G_is_in_range.mg G_is_in_range.kp G_is_in_range.b .nil pass0 (pa_cons (pe_fld (pv 0) rfl) pa_nil)))))))
      (pss_one (ps_ret pe_bl))
      pss_nil)
    (pss_cons (ps_if (PW.pt (pw_and (pt_val (pe_call G_is_stop.ok (hr.mono (by decide)) rfl G_is_stop.mg G_is_stop.kp G_is_stop.b .nil pass0 (pa_cons (pv 0) pa_nil))) (pw_and1 (pt_not (pt_val (pe_call G_is_in_range.ok (hr.mono (by decide)) rfl G_is_in_range.mg G_is_in_range.kp G_is_in_range.b .nil pass0 (pa_cons (pe_fld (pv 0) rfl) pa_nil)))))))
      (pss_one (ps_ret pe_bl))
      pss_nil)
    (pss_one (ps_ret (pe_call G_is_in_range.ok (hr.mono (by decide)) rfl G_is_in_range.mg G_is_in_range.kp G_is_in_range.b .nil pass0 (pa_cons (pe_fld (pv 0) rfl) pa_nil)))))))), ?_⟩

  obtain ⟨a, dx, x, rfl, hx, q⟩ := h
  rw [show L2.start ["order"] [V.ref a] = [some (.ref a)] from rfl]
  simp only [cxOf, Cx.nox, tSeq, tNext, tRet, tRetN, tDrop, tIfS, tVar, tC, tOp, tUn, tTest, tB, tAnd, tOr, tNot, tAndV, tOrV, tNotV, tIf, tFld, sFld, sFldAug, tAsg, gName, tAug, tCons, tNil, tCB, tCall, tMeth, tChain, rI0, rU, L2.rAdd, L2.rSub, ipI, List.getElem?_cons_zero, List.getElem?_cons_succ, List.set_cons_zero, List.set_cons_succ, Option.some.injEq, exists_eq_left', exists_eq_left, V.ref.injEq, V.int.injEq, V.bl.injEq, HO.ins.injEq, and_assoc, true_and, and_true, exists_and_left, List.cons.injEq, List.append_nil, List.cons_append, List.nil_append, x_eq, x_ne, oF_inj, if_true, if_false, Bool.false_eq_true, ite_true, ite_false, eq_self_iff_true, T.clO, T.nO_number, T.nO_who, T.nO_side, T.nO_kind, T.nO_price, T.nO_amount, T.nO_trigger, oF_number, oF_who, oF_side, oF_kind, oF_price, oF_amount, oF_trigger, oF_put_number, oF_put_who, oF_put_side, oF_put_kind, oF_put_price, oF_put_amount, oF_put_trigger, T.clB, T.nB_lines, T.nB_waiting, T.nB_known, T.nB_latest, T.nB_in_auction, T.nB_events, bF_lines, bF_waiting, bF_known, bF_latest, bF_in_auction, bF_events, bF_put_latest, bF_put_in_auction, bF_put_events, hx, spHasPrice, spIsStop, spInRange]
  revert q
  unfold asTold
  generalize decide (x.n < 1) = c0
  generalize decide (1 ≤ x.w) = c1
  generalize decide (x.w ≤ 255) = c2
  generalize decide (0 ≤ x.s) = c3
  generalize decide (x.s ≤ 1) = c4
  generalize decide (0 ≤ x.k) = c5
  generalize decide (x.k ≤ 6) = c6
  generalize priced x.k = c7
  generalize inR x.p = c8
  generalize stopK x.k = c9
  generalize inR x.t = c10
  cases c0 <;> cases c1 <;> cases c2 <;> cases c3 <;> cases c4 <;> cases c5 <;> cases c6 <;> cases c7 <;> cases c8 <;> cases c9 <;> cases c10 <;> exact fun q => q
theorem ok_accepts {f : Addr} {fd : FuncData} (F : Fun K "accepts" "accepts" s_accepts f fd) (T : Txt K mg CO CB)  : FnOk P w K mg base CX0 1 f fd ["order", "price"] (spAccepts CO) := by
  refine F.ok sc_accepts (fun vs H Q E h => ln_accepts h) (fun cdv A outer s H vs Q E hr h => ?_)
  have hu := hu_of hr
  refine ⟨_, (pss_cons (ps_if (pt_cmpR op_eq (pe_fld (pv 0) rfl) (pg_int rfl T.c_MARKET) (nomark _))
      (pss_one (ps_ret pe_bl))
      pss_nil)
    (pss_cons (ps_if (pt_cmpR op_eq (pe_fld (pv 0) rfl) (pg_int rfl T.c_BUYS) (nomark _))
      (pss_one (ps_ret (pe_cmpR op_le (pv 1) (pe_fld (pv 0) rfl) (nomark _))))
      pss_nil)
    (pss_one (ps_ret (pe_cmpR op_ge (pv 1) (pe_fld (pv 0) rfl) (nomark _)))))), ?_⟩

  obtain ⟨a, dx, x, p, rfl, hx, q⟩ := h
  rw [show L2.start ["order", "price"] [V.ref a, V.int p] = [some (.ref a), some (.int p)] from rfl]
  simp only [cxOf, Cx.nox, tSeq, tNext, tRet, tRetN, tDrop, tIfS, tVar, tC, tOp, tUn, tTest, tB, tAnd, tOr, tNot, tAndV, tOrV, tNotV, tIf, tFld, sFld, sFldAug, tAsg, gName, tAug, tCons, tNil, tCB, tCall, tMeth, tChain, rI0, rU, L2.rAdd, L2.rSub, ipI, List.getElem?_cons_zero, List.getElem?_cons_succ, List.set_cons_zero, List.set_cons_succ, Option.some.injEq, exists_eq_left', exists_eq_left, V.ref.injEq, V.int.injEq, V.bl.injEq, HO.ins.injEq, and_assoc, true_and, and_true, exists_and_left, List.cons.injEq, List.append_nil, List.cons_append, List.nil_append, x_eq, x_ne, oF_inj, if_true, if_false, Bool.false_eq_true, ite_true, ite_false, eq_self_iff_true, T.clO, T.nO_number, T.nO_who, T.nO_side, T.nO_kind, T.nO_price, T.nO_amount, T.nO_trigger, oF_number, oF_who, oF_side, oF_kind, oF_price, oF_amount, oF_trigger, oF_put_number, oF_put_who, oF_put_side, oF_put_kind, oF_put_price, oF_put_amount, oF_put_trigger, T.clB, T.nB_lines, T.nB_waiting, T.nB_known, T.nB_latest, T.nB_in_auction, T.nB_events, bF_lines, bF_waiting, bF_known, bF_latest, bF_in_auction, bF_events, bF_put_latest, bF_put_in_auction, bF_put_events, hx, decide_eq_true_eq]
  unfold accW at q
  by_cases h1 : x.k = 1
  · rw [if_pos h1] at q ⊢
    exact q
  · rw [if_neg h1] at q ⊢
    by_cases h2 : x.s = 0
    · rw [if_pos h2] at q ⊢
      exact q
    · rw [if_neg h2] at q ⊢
      exact q
theorem ok_is_triggered {f : Addr} {fd : FuncData} (F : Fun K "is_triggered" "is_triggered" s_is_triggered f fd) (T : Txt K mg CO CB)  : FnOk P w K mg base CX0 1 f fd ["stop", "latest"] (spIsTriggered CO) := by
  refine F.ok sc_is_triggered (fun vs H Q E h => ln_is_triggered h) (fun cdv A outer s H vs Q E hr h => ?_)
  have hu := hu_of hr
  refine ⟨_, (pss_cons (ps_if (pt_cmpR op_eq (pv 1) pe_int (nomark _))
      (pss_one (ps_ret pe_bl))
      pss_nil)
    (pss_cons (ps_if (pt_cmpR op_eq (pe_fld (pv 0) rfl) (pg_int rfl T.c_BUYS) (nomark _))
      (pss_one (ps_ret (pe_cmpR op_ge (pv 1) (pe_fld (pv 0) rfl) (nomark _))))
      pss_nil)
    (pss_one (ps_ret (pe_cmpR op_le (pv 1) (pe_fld (pv 0) rfl) (nomark _)))))), ?_⟩

  obtain ⟨a, dx, x, p, rfl, hx, q⟩ := h
  rw [show L2.start ["stop", "latest"] [V.ref a, V.int p] = [some (.ref a), some (.int p)] from rfl]
  simp only [cxOf, Cx.nox, tSeq, tNext, tRet, tRetN, tDrop, tIfS, tVar, tC, tOp, tUn, tTest, tB, tAnd, tOr, tNot, tAndV, tOrV, tNotV, tIf, tFld, sFld, sFldAug, tAsg, gName, tAug, tCons, tNil, tCB, tCall, tMeth, tChain, rI0, rU, L2.rAdd, L2.rSub, ipI, List.getElem?_cons_zero, List.getElem?_cons_succ, List.set_cons_zero, List.set_cons_succ, Option.some.injEq, exists_eq_left', exists_eq_left, V.ref.injEq, V.int.injEq, V.bl.injEq, HO.ins.injEq, and_assoc, true_and, and_true, exists_and_left, List.cons.injEq, List.append_nil, List.cons_append, List.nil_append, x_eq, x_ne, oF_inj, if_true, if_false, Bool.false_eq_true, ite_true, ite_false, eq_self_iff_true, T.clO, T.nO_number, T.nO_who, T.nO_side, T.nO_kind, T.nO_price, T.nO_amount, T.nO_trigger, oF_number, oF_who, oF_side, oF_kind, oF_price, oF_amount, oF_trigger, oF_put_number, oF_put_who, oF_put_side, oF_put_kind, oF_put_price, oF_put_amount, oF_put_trigger, T.clB, T.nB_lines, T.nB_waiting, T.nB_known, T.nB_latest, T.nB_in_auction, T.nB_events, bF_lines, bF_waiting, bF_known, bF_latest, bF_in_auction, bF_events, bF_put_latest, bF_put_in_auction, bF_put_events, hx, decide_eq_true_eq]
  unfold trigW at q
  by_cases h1 : p = 0
  · rw [if_pos h1] at q ⊢
    exact q
  · rw [if_neg h1] at q ⊢
    by_cases h2 : x.s = 0
    · rw [if_pos h2] at q ⊢
      exact q
    · rw [if_neg h2] at q ⊢
      exact q
theorem ok_is_better {f : Addr} {fd : FuncData} (F : Fun K "is_better" "is_better" s_is_better f fd) (T : Txt K mg CO CB)  : FnOk P w K mg base CX0 1 f fd ["order", "other"] (spIsBetter CO) := by
  refine F.ok sc_is_better (fun vs H Q E h => ln_is_better h) (fun cdv A outer s H vs Q E hr h => ?_)
  have hu := hu_of hr
  refine ⟨_, (pss_cons (ps_if (pt_cmpR op_eq (pe_fld (pv 0) rfl) (pg_int rfl T.c_BUYS) (nomark _))
      (pss_one (ps_ret (pe_cmpR op_gt (pe_fld (pv 0) rfl) (pe_fld (pv 1) rfl) (nomark _))))
      pss_nil)
    (pss_one (ps_ret (pe_cmpR op_lt (pe_fld (pv 0) rfl) (pe_fld (pv 1) rfl) (nomark _))))), ?_⟩

  obtain ⟨a, dx, x, c, dy, y, rfl, hx, hy, q⟩ := h
  rw [show L2.start ["order", "other"] [V.ref a, V.ref c] = [some (.ref a), some (.ref c)] from rfl]
  simp only [cxOf, Cx.nox, tSeq, tNext, tRet, tRetN, tDrop, tIfS, tVar, tC, tOp, tUn, tTest, tB, tAnd, tOr, tNot, tAndV, tOrV, tNotV, tIf, tFld, sFld, sFldAug, tAsg, gName, tAug, tCons, tNil, tCB, tCall, tMeth, tChain, rI0, rU, L2.rAdd, L2.rSub, ipI, List.getElem?_cons_zero, List.getElem?_cons_succ, List.set_cons_zero, List.set_cons_succ, Option.some.injEq, exists_eq_left', exists_eq_left, V.ref.injEq, V.int.injEq, V.bl.injEq, HO.ins.injEq, and_assoc, true_and, and_true, exists_and_left, List.cons.injEq, List.append_nil, List.cons_append, List.nil_append, x_eq, x_ne, oF_inj, if_true, if_false, Bool.false_eq_true, ite_true, ite_false, eq_self_iff_true, T.clO, T.nO_number, T.nO_who, T.nO_side, T.nO_kind, T.nO_price, T.nO_amount, T.nO_trigger, oF_number, oF_who, oF_side, oF_kind, oF_price, oF_amount, oF_trigger, oF_put_number, oF_put_who, oF_put_side, oF_put_kind, oF_put_price, oF_put_amount, oF_put_trigger, T.clB, T.nB_lines, T.nB_waiting, T.nB_known, T.nB_latest, T.nB_in_auction, T.nB_events, bF_lines, bF_waiting, bF_known, bF_latest, bF_in_auction, bF_events, bF_put_latest, bF_put_in_auction, bF_put_events, hx, hy, decide_eq_true_eq]
  unfold betW at q
  by_cases h2 : x.s = 0
  · rw [if_pos h2] at q ⊢
    exact q
  · rw [if_neg h2] at q ⊢
    exact q
end
end SB
namespace SB
open PySem PySem.Spec PyProof.Rows L2
section
variable {P : Program} {w : World} {K : PySem.W.Frag} {mg : Str → Option Value} {base : Heap} {CO CB : Addr}
/-! ### an order is made -/
/-- all but what stands at xs is as it was -/
def Fr (xs : List Addr) (H H' : Hp) : Prop := ∀ b o, H b = some o → b ∉ xs → H' b = some o
def spOrderInit (K : PySem.W.Frag) (CO : Addr) : Sp := fun vs H Q _ => ∃ p dx l, ∃ n z s k q m t : Int, vs = [.ref p, .ref l] ∧ H p = some (.ins CO dx []) ∧ H l = some (.lst ([n, z, s, k, q, m, t].map V.int)) ∧
  ∀ H', H' p = some (.ins CO dx (oF (W.init n z s k q m t))) → Fr [p] H H' → Q .non H'
theorem ln_Order_init {vs : List V} {H : Hp} {Q : VK} {E : XK} (h : spOrderInit K CO vs H Q E) : vs.length = 2 := by
  obtain ⟨p, dx, l, n, z, s, k, q, m, t, rfl, _⟩ := h
  rfl
theorem small_put {f : Str} {v : V} : ∀ {fs : List (Str × V)} {n : Nat}, fs.length ≤ n → (putF f v fs).length ≤ n + 1
  | [], n, h => by
    show 1 ≤ n + 1
    omega
  | (g, x) :: r, n, h => by
    have h : r.length + 1 ≤ n := h
    show (if g = f then (g, v) :: r else (g, x) :: putF f v r).length ≤ n + 1
    split
    · show r.length + 1 ≤ n + 1
      omega
    · have := small_put (f := f) (v := v) (fs := r) (n := n - 1) (by omega)
      show (putF f v r).length + 1 ≤ n + 1
      omega
theorem set_ix {C l p dx : Addr} {xs : List V} {fs : List (Str × V)} {i : Int} {v : V} {f : Str} {D : Ends} {σ : L2.St} {H : Hp} (h1 : σ[1]? = some (some (.ref l))) (h0 : σ[0]? = some (some (.ref p))) (hl : H l = some (.lst xs)) (hi : atI xs i = some v)
    (hp : H p = some (.ins C dx fs)) (cl : Cls K C) (na : NoAttr K C f) (len : fs.length < 1000) (k : D.nx σ (upd H p (.ins C dx (putF f v fs)))) : sFld K (tVar 0) (tOp (rIxL K) (tVar 1) (tC (.int i))) f D σ H :=
  ⟨_, h1, l, xs, i, v, rfl, rfl, SqL.of hl, hi, _, h0, p, C, dx, fs, rfl, hp, cl, na, len, k⟩
theorem ok_Order_init {f : Addr} {fd : FuncData} (F : Fun K "__init__" "Order.__init__" s_Order_init f fd) (T : Txt K mg CO CB) {f_has_price : Addr} {d_has_price : FuncData} (G_has_price : Gd P w K mg base 1 "has_price" f_has_price d_has_price ["order"] (spHasPrice CO)) : FnOk P w K mg base CX0 2 f fd ["self", "numbers"] (spOrderInit K CO) := by
  refine F.ok sc_Order_init (fun vs H Q E h => ln_Order_init h) (fun cdv A outer s H vs Q E hr h => ?_)
  have hu := hu_of hr
  refine ⟨_, (pss_cons (ps_fld (pv 0) (pe_ix ix_list (pv 1) pe_int (fun _ _ => rfl)) rfl)
    (pss_cons (ps_fld (pv 0) (pe_ix ix_list (pv 1) pe_int (fun _ _ => rfl)) rfl)
    (pss_cons (ps_fld (pv 0) (pe_ix ix_list (pv 1) pe_int (fun _ _ => rfl)) rfl)
    (pss_cons (ps_fld (pv 0) (pe_ix ix_list (pv 1) pe_int (fun _ _ => rfl)) rfl)
    (pss_cons (ps_fld (pv 0) (pe_ix ix_list (pv 1) pe_int (fun _ _ => rfl)) rfl)
    (pss_cons (ps_fld (pv 0) (pe_ix ix_list (pv 1) pe_int (fun _ _ => rfl)) rfl)
    (pss_cons (ps_fld (pv 0) (pe_ix ix_list (pv 1) pe_int (fun _ _ => rfl)) rfl)
    (pss_one (ps_if (pt_not (pt_val (pe_call G_has_price.ok (hr.mono (by decide)) rfl G_has_price.mg G_has_price.kp G_has_price.b .nil pass0 (pa_cons (pv 0) pa_nil))))
      (pss_one (ps_fld (pv 0) pe_int rfl))
      pss_nil))))))))), ?_⟩

  obtain ⟨p, dx, l, n, z, s', k, q, m, t, rfl, hp, hl, kk⟩ := h
  rw [show L2.start ["self", "numbers"] [V.ref p, V.ref l] = [some (.ref p), some (.ref l)] from rfl]
  have ne : l ≠ p := (ne_of hp hl (by intro e; cases e)).symm
  have hl2 : ∀ o, upd H p o l = some (.lst ([n, z, s', k, q, m, t].map V.int)) := fun o => by
    rw [upd_ne ne]
    exact hl
  refine set_ix rfl rfl hl rfl hp T.clO T.nO_number (by show 0 < 1000; decide) ?_
  refine set_ix rfl rfl (hl2 _) rfl upd_same T.clO T.nO_who (Nat.lt_of_le_of_lt (small_put (Nat.le_refl 0)) (by decide)) ?_
  rw [upd_upd]
  refine set_ix rfl rfl (hl2 _) rfl upd_same T.clO T.nO_side (Nat.lt_of_le_of_lt (small_put (small_put (Nat.le_refl 0))) (by decide)) ?_
  rw [upd_upd]
  refine set_ix rfl rfl (hl2 _) rfl upd_same T.clO T.nO_kind (Nat.lt_of_le_of_lt (small_put (small_put (small_put (Nat.le_refl 0)))) (by decide)) ?_
  rw [upd_upd]
  refine set_ix rfl rfl (hl2 _) rfl upd_same T.clO T.nO_price (Nat.lt_of_le_of_lt (small_put (small_put (small_put (small_put (Nat.le_refl 0))))) (by decide)) ?_
  rw [upd_upd]
  refine set_ix rfl rfl (hl2 _) rfl upd_same T.clO T.nO_amount (Nat.lt_of_le_of_lt (small_put (small_put (small_put (small_put (small_put (Nat.le_refl 0)))))) (by decide)) ?_
  rw [upd_upd]
  refine set_ix rfl rfl (hl2 _) rfl upd_same T.clO T.nO_trigger (Nat.lt_of_le_of_lt (small_put (small_put (small_put (small_put (small_put (small_put (Nat.le_refl 0))))))) (by decide)) ?_
  rw [upd_upd]
  rw [oF_new]
  have hx : (upd H p (.ins CO dx (oF ⟨n, z, s', k, q, m, t⟩))) p = some (.ins CO dx (oF ⟨n, z, s', k, q, m, t⟩)) := upd_same
  simp only [cxOf, Cx.nox, tSeq, tNext, tRet, tRetN, tDrop, tIfS, tVar, tC, tOp, tUn, tTest, tB, tAnd, tOr, tNot, tAndV, tOrV, tNotV, tIf, tFld, sFld, sFldAug, tAsg, gName, tAug, tCons, tNil, tCB, tCall, tMeth, tChain, rI0, rU, L2.rAdd, L2.rSub, ipI, List.getElem?_cons_zero, List.getElem?_cons_succ, List.set_cons_zero, List.set_cons_succ, Option.some.injEq, exists_eq_left', exists_eq_left, V.ref.injEq, V.int.injEq, V.bl.injEq, HO.ins.injEq, and_assoc, true_and, and_true, exists_and_left, List.cons.injEq, List.append_nil, List.cons_append, List.nil_append, x_eq, x_ne, oF_inj, if_true, if_false, Bool.false_eq_true, ite_true, ite_false, eq_self_iff_true, T.clO, T.nO_number, T.nO_who, T.nO_side, T.nO_kind, T.nO_price, T.nO_amount, T.nO_trigger, oF_number, oF_who, oF_side, oF_kind, oF_price, oF_amount, oF_trigger, oF_put_number, oF_put_who, oF_put_side, oF_put_kind, oF_put_price, oF_put_amount, oF_put_trigger, T.clB, T.nB_lines, T.nB_waiting, T.nB_known, T.nB_latest, T.nB_in_auction, T.nB_events, bF_lines, bF_waiting, bF_known, bF_latest, bF_in_auction, bF_events, bF_put_latest, bF_put_in_auction, bF_put_events, hx, spHasPrice, upd_upd, oF_len]
  have fr : ∀ o, Fr [p] H (upd H p o) := fun o b u e hb => by
    rw [upd_ne (fun z => hb (by rw [z]; exact List.mem_singleton.mpr rfl))]
    exact e
  cases e : priced k with
  | true =>
    refine iteF ?_
    refine kk _ ?_ (fr _)
    rw [upd_same]
    show some (HO.ins CO dx (oF ⟨n, z, s', k, q, m, t⟩)) = some (HO.ins CO dx (oF ⟨n, z, s', k, if priced k = true then q else 0, m, t⟩))
    rw [if_pos e]
  | false =>
    refine iteT ⟨by decide, ?_⟩
    refine kk _ ?_ (fr _)
    rw [upd_same]
    show some (HO.ins CO dx (oF ⟨n, z, s', k, 0, m, t⟩)) = some (HO.ins CO dx (oF ⟨n, z, s', k, if priced k = true then q else 0, m, t⟩))
    rw [e]
    rfl
end
end SB
namespace SB
open PySem PySem.Spec PyProof.Rows L2
section
variable {P : Program} {w : World} {K : PySem.W.Frag} {mg : Str → Option Value} {base : Heap} {CO CB : Addr}
/-! ### where an order goes in a line -/
def R.v (r : R) : V := .ref r.a
theorem ix_l {l : Addr} {xs : List V} {i : Int} {v : V} {H : Hp} {Q : VK} (h : H l = some (.lst xs)) (e : atI xs i = some v) (q : Q v H) : rIxL K (.ref l) (.int i) H Q := ⟨l, xs, i, v, rfl, rfl, SqL.of h, e, q⟩
theorem ix_t {l : Addr} {xs : List V} {i : Int} {v : V} {H : Hp} {Q : VK} (h : H l = some (.tup xs)) (e : atI xs i = some v) (q : Q v H) : rIxT K (.ref l) (.int i) H Q := ⟨l, xs, i, v, rfl, rfl, SqT.of h, e, q⟩
def placeOf (r : R) (l : List R) : Nat := (l.takeWhile fun q => !Sd17.better r.o.buy r.o.price q.o.price).length
def spPlaceIn (K : PySem.W.Frag) (CO : Addr) : Sp := fun vs H Q _ => ∃ l, ∃ r : R, ∃ rs : List R, vs = [.ref l, .ref r.a] ∧ OAt CO H r.a r.w ∧ H l = some (.lst (rs.map R.v)) ∧ (∀ q ∈ rs, OAt CO H q.a q.w) ∧ Srt r.o.buy (rs.map (·.o)) ∧ Q (.int (placeOf r rs : Nat)) H
theorem ln_place_in {vs : List V} {H : Hp} {Q : VK} {E : XK} (h : spPlaceIn K CO vs H Q E) : vs.length = 2 := by
  obtain ⟨l, r, rs, rfl, _⟩ := h
  rfl
theorem betW_eq (r q : R) : betW r.w q.w = Sd17.better r.o.buy r.o.price q.o.price := by
  unfold betW Sd17.better R.w
  cases r.o.buy
  · simp
  · simp
theorem place_eq {r : R} {rs : List R} {k : Nat} (hk : k ≤ rs.length) (h1 : ∀ i q, i < k → rs[i]? = some q → Sd17.better r.o.buy r.o.price q.o.price = false) (h2 : ∀ i q, k ≤ i → rs[i]? = some q → Sd17.better r.o.buy r.o.price q.o.price = true) : placeOf r rs = k := by
  unfold placeOf
  induction rs generalizing k with
  | nil =>
    simp at hk
    rw [hk]
    rfl
  | cons x l ih =>
    cases k with
    | zero =>
      have := h2 0 x (Nat.le_refl 0) rfl
      rw [List.takeWhile_cons_of_neg (by simp [this])]
      rfl
    | succ k =>
      have := h1 0 x (by omega) rfl
      rw [List.takeWhile_cons_of_pos (by simp [this]), List.length_cons, ih (k := k) (by simpa using hk) (fun i q hi e => h1 (i + 1) q (by omega) (by simpa using e)) (fun i q hi e => h2 (i + 1) q (by omega) (by simpa using e))]
theorem srt_get {r : R} {rs : List R} (hs : Srt r.o.buy (rs.map (·.o))) {i j : Nat} {x y : R} (hx : rs[i]? = some x) (hy : rs[j]? = some y) (hij : i ≤ j) : (Sd17.better r.o.buy r.o.price x.o.price = true → Sd17.better r.o.buy r.o.price y.o.price = true) := by
  intro h
  rcases Nat.lt_or_ge i j with h1 | h1
  · unfold Srt at hs
    rw [List.pairwise_map, List.pairwise_iff_getElem] at hs
    obtain ⟨hi, e1⟩ := List.getElem?_eq_some_iff.mp hx
    obtain ⟨hj, e2⟩ := List.getElem?_eq_some_iff.mp hy
    have := hs i j hi hj h1
    rw [e1, e2] at this
    have a := better_false.mp this
    rw [better_true] at h ⊢
    clear this hs
    generalize r.o.buy = bb at a h ⊢
    cases bb <;> simp only [if_true, if_false, Bool.false_eq_true] at a h ⊢ <;> omega
  · have : i = j := by omega
    subst this
    rw [hx] at hy
    cases hy
    exact h
/-- what holds ahead of a turn of place_in's loop -/
def wPlace (l : Addr) (r : R) (rs : List R) (H : Hp) (m : Nat) (σ : L2.St) (H' : Hp) : Prop := ∃ lo hi : Nat, ∃ mid : Option V, σ = [some (.ref l), some (.ref r.a), some (.int (lo : Nat)), some (.int (hi : Nat)), mid] ∧ H' = H ∧ m = hi - lo ∧ lo ≤ hi ∧ hi ≤ rs.length ∧
    (∀ i q, i < lo → rs[i]? = some q → Sd17.better r.o.buy r.o.price q.o.price = false) ∧ (∀ i q, hi ≤ i → rs[i]? = some q → Sd17.better r.o.buy r.o.price q.o.price = true)
theorem ok_place_in {f : Addr} {fd : FuncData} (F : Fun K "place_in" "place_in" s_place_in f fd) (T : Txt K mg CO CB) {f_is_better : Addr} {d_is_better : FuncData} (G_is_better : Gd P w K mg base 1 "is_better" f_is_better d_is_better ["order", "other"] (spIsBetter CO)) : FnOk P w K mg base CX0 2 f fd ["line", "order"] (spPlaceIn K CO) := by
  refine F.ok sc_place_in (fun vs H Q E h => ln_place_in h) (fun cdv A outer s H vs Q E hr h => ?_)
  have hu := hu_of hr
  refine ⟨_, (pss_cons (ps_set (i := 2) sc_place_in.nd rfl (Or.inl rfl) pe_int)
    (pss_cons (ps_set (i := 3) sc_place_in.nd rfl (Or.inl rfl) (pe_callB call_len_seq (by rfl) T.b_len PySem.boot_len (pa_cons (pv 0) pa_nil)))
    (pss_cons (ps_while PassesOwn.never (pt_cmpR op_lt (pv 2) (pv 3) (nomark _))
      (pss_cons (ps_set (i := 4) sc_place_in.nd rfl (Or.inl rfl) (pe_op op_fdiv (pe_op op_add (pv 2) (pv 3)) pe_int))
        (pss_one (ps_if (pt_val (pe_call G_is_better.ok (hr.mono (by decide)) rfl G_is_better.mg G_is_better.kp G_is_better.b .nil pass0 (pa_cons (pv 1) (pa_cons (pe_ix ix_list (pv 0) (pv 4) (fun _ _ => rfl)) pa_nil))))
          (pss_one (ps_set (i := 3) sc_place_in.nd rfl (Or.inl rfl) (pv 4)))
          (pss_one (ps_set (i := 2) sc_place_in.nd rfl (Or.inl rfl) (pe_op op_add (pv 4) pe_int)))))))
    (pss_one (ps_ret (pv 2)))))), ?_⟩

  obtain ⟨l, r, rs, rfl, ⟨dx, hx⟩, hl, hq, hs, kk⟩ := h
  rw [show L2.start ["line", "order", "low", "high", "middle"] [V.ref l, V.ref r.a] = [some (.ref l), some (.ref r.a), none, none, none] from rfl]
  simp only [cxOf, Cx.nox, tSeq, tNext, tRet, tRetN, tDrop, tIfS, tVar, tC, tOp, tUn, tTest, tB, tAnd, tOr, tNot, tAndV, tOrV, tNotV, tIf, tFld, sFld, sFldAug, tAsg, gName, tAug, tCons, tNil, tCB, tCall, tMeth, tChain, rI0, rI, CDiv, rU, L2.rAdd, L2.rSub, ipI, List.getElem?_cons_zero, List.getElem?_cons_succ, List.set_cons_zero, List.set_cons_succ, Option.some.injEq, exists_eq_left', exists_eq_left, V.ref.injEq, V.int.injEq, V.bl.injEq, HO.ins.injEq, and_assoc, true_and, and_true, exists_and_left, List.cons.injEq, List.append_nil, List.cons_append, List.nil_append, x_eq, x_ne, oF_inj, if_true, if_false, Bool.false_eq_true, ite_true, ite_false, eq_self_iff_true, T.clO, T.nO_number, T.nO_who, T.nO_side, T.nO_kind, T.nO_price, T.nO_amount, T.nO_trigger, oF_number, oF_who, oF_side, oF_kind, oF_price, oF_amount, oF_trigger, oF_put_number, oF_put_who, oF_put_side, oF_put_kind, oF_put_price, oF_put_amount, oF_put_trigger, T.clB, T.nB_lines, T.nB_waiting, T.nB_known, T.nB_latest, T.nB_in_auction, T.nB_events, bF_lines, bF_waiting, bF_known, bF_latest, bF_in_auction, bF_events, bF_put_latest, bF_put_in_auction, bF_put_events]
  refine ⟨rs.map R.v, .inl (SqL.of hl), ?_⟩
  refine ⟨wPlace l r rs H, ⟨_, 0, rs.length, none, ?_, rfl, rfl, Nat.zero_le _, Nat.le_refl _, fun i q hi => by omega, fun i q hi e => ?_⟩, ?_⟩
  · rw [List.length_map]
    rfl
  · have := (List.getElem?_eq_some_iff.mp e).1
    omega
  · rintro m σ H' ⟨lo, hi, mid, rfl, rfl, rfl, h1, h2, h3, h4⟩
    refine ⟨_, rfl, _, rfl, _, _, rfl, rfl, _, rfl, ?_⟩
    by_cases c : lo < hi
    · rw [decide_eq_true (show (lo : Int) < (hi : Int) by omega)]
      refine iteT ⟨_, fun _ _ n => n, ?_⟩
      have hm : (lo + hi) / 2 < rs.length := by omega
      have em : rs[(lo + hi) / 2]? = some rs[(lo + hi) / 2] := List.getElem?_eq_getElem hm
      generalize rs[(lo + hi) / 2] = y at em
      obtain ⟨dy, hy⟩ := hq y (List.mem_of_getElem? em)
      have ec : ((lo : Int) + (hi : Int)) / 2 = (((lo + hi) / 2 : Nat) : Int) := by omega
      simp only [cxOf, Cx.nox, tSeq, tNext, tRet, tRetN, tDrop, tIfS, tVar, tC, tOp, tUn, tTest, tB, tAnd, tOr, tNot, tAndV, tOrV, tNotV, tIf, tFld, sFld, sFldAug, tAsg, gName, tAug, tCons, tNil, tCB, tCall, tMeth, tChain, rI0, rI, CDiv, rU, L2.rAdd, L2.rSub, ipI, List.getElem?_cons_zero, List.getElem?_cons_succ, List.set_cons_zero, List.set_cons_succ, Option.some.injEq, exists_eq_left', exists_eq_left, V.ref.injEq, V.int.injEq, V.bl.injEq, HO.ins.injEq, and_assoc, true_and, and_true, exists_and_left, List.cons.injEq, List.append_nil, List.cons_append, List.nil_append, x_eq, x_ne, oF_inj, if_true, if_false, Bool.false_eq_true, ite_true, ite_false, eq_self_iff_true, T.clO, T.nO_number, T.nO_who, T.nO_side, T.nO_kind, T.nO_price, T.nO_amount, T.nO_trigger, oF_number, oF_who, oF_side, oF_kind, oF_price, oF_amount, oF_trigger, oF_put_number, oF_put_who, oF_put_side, oF_put_kind, oF_put_price, oF_put_amount, oF_put_trigger, T.clB, T.nB_lines, T.nB_waiting, T.nB_known, T.nB_latest, T.nB_in_auction, T.nB_events, bF_lines, bF_waiting, bF_known, bF_latest, bF_in_auction, bF_events, bF_put_latest, bF_put_in_auction, bF_put_events, ec]
      refine ⟨by decide, by decide, ix_l hl (atI_nat (v := y.v) (by rw [List.getElem?_map, em]; rfl)) ?_⟩
      simp only [cxOf, Cx.nox, tSeq, tNext, tRet, tRetN, tDrop, tIfS, tVar, tC, tOp, tUn, tTest, tB, tAnd, tOr, tNot, tAndV, tOrV, tNotV, tIf, tFld, sFld, sFldAug, tAsg, gName, tAug, tCons, tNil, tCB, tCall, tMeth, tChain, rI0, rI, CDiv, rU, L2.rAdd, L2.rSub, ipI, List.getElem?_cons_zero, List.getElem?_cons_succ, List.set_cons_zero, List.set_cons_succ, Option.some.injEq, exists_eq_left', exists_eq_left, V.ref.injEq, V.int.injEq, V.bl.injEq, HO.ins.injEq, and_assoc, true_and, and_true, exists_and_left, List.cons.injEq, List.append_nil, List.cons_append, List.nil_append, x_eq, x_ne, oF_inj, if_true, if_false, Bool.false_eq_true, ite_true, ite_false, eq_self_iff_true, T.clO, T.nO_number, T.nO_who, T.nO_side, T.nO_kind, T.nO_price, T.nO_amount, T.nO_trigger, oF_number, oF_who, oF_side, oF_kind, oF_price, oF_amount, oF_trigger, oF_put_number, oF_put_who, oF_put_side, oF_put_kind, oF_put_price, oF_put_amount, oF_put_trigger, T.clB, T.nB_lines, T.nB_waiting, T.nB_known, T.nB_latest, T.nB_in_auction, T.nB_events, bF_lines, bF_waiting, bF_known, bF_latest, bF_in_auction, bF_events, bF_put_latest, bF_put_in_auction, bF_put_events, spIsBetter, R.v, hx, hy, betW_eq]
      cases e : Sd17.better r.o.buy r.o.price y.o.price with
      | true =>
        refine iteT ⟨_, ?_, lo, (lo + hi) / 2, _, rfl, rfl, rfl, by omega, by omega, h3, fun i q hi2 ei => ?_⟩
        · omega
        · exact srt_get hs em ei hi2 e
      | false =>
        refine iteF ⟨_, ?_, (lo + hi) / 2 + 1, hi, _, rfl, rfl, rfl, by omega, by omega, fun i q hi2 ei => ?_, h4⟩
        · omega
        · cases e3 : Sd17.better r.o.buy r.o.price q.o.price with
          | false => rfl
          | true =>
            have := srt_get hs ei em (by omega) e3
            rw [e] at this
            cases this
    · rw [decide_eq_false (show ¬ (lo : Int) < (hi : Int) by omega)]
      refine iteF ?_
      have e : lo = hi := by omega
      subst e
      simp only [cxOf, Cx.nox, tSeq, tNext, tRet, tRetN, tDrop, tIfS, tVar, tC, tOp, tUn, tTest, tB, tAnd, tOr, tNot, tAndV, tOrV, tNotV, tIf, tFld, sFld, sFldAug, tAsg, gName, tAug, tCons, tNil, tCB, tCall, tMeth, tChain, rI0, rI, CDiv, rU, L2.rAdd, L2.rSub, ipI, List.getElem?_cons_zero, List.getElem?_cons_succ, List.set_cons_zero, List.set_cons_succ, Option.some.injEq, exists_eq_left', exists_eq_left, V.ref.injEq, V.int.injEq, V.bl.injEq, HO.ins.injEq, and_assoc, true_and, and_true, exists_and_left, List.cons.injEq, List.append_nil, List.cons_append, List.nil_append, x_eq, x_ne, oF_inj, if_true, if_false, Bool.false_eq_true, ite_true, ite_false, eq_self_iff_true, T.clO, T.nO_number, T.nO_who, T.nO_side, T.nO_kind, T.nO_price, T.nO_amount, T.nO_trigger, oF_number, oF_who, oF_side, oF_kind, oF_price, oF_amount, oF_trigger, oF_put_number, oF_put_who, oF_put_side, oF_put_kind, oF_put_price, oF_put_amount, oF_put_trigger, T.clB, T.nB_lines, T.nB_waiting, T.nB_known, T.nB_latest, T.nB_in_auction, T.nB_events, bF_lines, bF_waiting, bF_known, bF_latest, bF_in_auction, bF_events, bF_put_latest, bF_put_in_auction, bF_put_events]
      rw [place_eq h2 h3 h4] at kk
      exact kk
end
end SB
namespace SB
open PySem PySem.Spec PyProof.Rows L2
section
variable {P : Program} {w : World} {K : PySem.W.Frag} {mg : Str → Option Value} {base : Heap} {CO CB : Addr}
/-! ### the book in the heap -/
structure Known (kvs : List (Key × V)) (l : List R) : Prop where
  on : ∀ r ∈ l, valV kvs (Sum.inl (r.o.id : Int) : Key) = some (.ref r.a)
  off : ∀ (z : Int) (v : V), valV kvs (Sum.inl z : Key) = some v → ∃ r ∈ l, (r.o.id : Int) = z ∧ v = .ref r.a
  len : kvs.length = l.length
  nd : (kvs.map (·.1)).Nodup
structure BkAt (CO CB : Addr) (L : Lay) (H : Hp) (m : M) (es : List Int) : Prop where
  ob : ∃ dx, H L.bk = some (.ins CB dx (bF L m.last m.auc))
  tl : H L.tl = some (.tup [.ref L.lb, .ref L.ls])
  lb : H L.lb = some (.lst (m.buys.map R.v))
  ls : H L.ls = some (.lst (m.sells.map R.v))
  wl : H L.wl = some (.lst (m.waits.map R.v))
  kd : ∃ kvs, H L.kd = some (.dK kvs) ∧ Known kvs m.all
  ev : H L.ev = some (.lst (es.map V.int))
  od : ∀ r ∈ m.all, OAt CO H r.a r.w
  ne : L.lb ≠ L.ls ∧ L.lb ≠ L.wl ∧ L.ls ≠ L.wl ∧ L.ev ≠ L.lb ∧ L.ev ≠ L.ls ∧ L.ev ≠ L.wl
  ok : MOk m
theorem bF_oF {L : Lay} {la : Nat} {c : Bool} {x : W} {C D dx dy : Addr} : HO.ins C dx (bF L la c) ≠ HO.ins D dy (oF x) := fun e => by
  injection e with _ _ e
  have := congrArg List.length e
  rw [bF_len, oF_len] at this
  cases this
structure Ap (L : Lay) : Prop where
  bk_tl : L.bk ≠ L.tl
  bk_lb : L.bk ≠ L.lb
  bk_ls : L.bk ≠ L.ls
  bk_wl : L.bk ≠ L.wl
  bk_kd : L.bk ≠ L.kd
  bk_ev : L.bk ≠ L.ev
  tl_bk : L.tl ≠ L.bk
  tl_lb : L.tl ≠ L.lb
  tl_ls : L.tl ≠ L.ls
  tl_wl : L.tl ≠ L.wl
  tl_kd : L.tl ≠ L.kd
  tl_ev : L.tl ≠ L.ev
  lb_bk : L.lb ≠ L.bk
  lb_tl : L.lb ≠ L.tl
  lb_ls : L.lb ≠ L.ls
  lb_wl : L.lb ≠ L.wl
  lb_kd : L.lb ≠ L.kd
  lb_ev : L.lb ≠ L.ev
  ls_bk : L.ls ≠ L.bk
  ls_tl : L.ls ≠ L.tl
  ls_lb : L.ls ≠ L.lb
  ls_wl : L.ls ≠ L.wl
  ls_kd : L.ls ≠ L.kd
  ls_ev : L.ls ≠ L.ev
  wl_bk : L.wl ≠ L.bk
  wl_tl : L.wl ≠ L.tl
  wl_lb : L.wl ≠ L.lb
  wl_ls : L.wl ≠ L.ls
  wl_kd : L.wl ≠ L.kd
  wl_ev : L.wl ≠ L.ev
  kd_bk : L.kd ≠ L.bk
  kd_tl : L.kd ≠ L.tl
  kd_lb : L.kd ≠ L.lb
  kd_ls : L.kd ≠ L.ls
  kd_wl : L.kd ≠ L.wl
  kd_ev : L.kd ≠ L.ev
  ev_bk : L.ev ≠ L.bk
  ev_tl : L.ev ≠ L.tl
  ev_lb : L.ev ≠ L.lb
  ev_ls : L.ev ≠ L.ls
  ev_wl : L.ev ≠ L.wl
  ev_kd : L.ev ≠ L.kd
theorem BkAt.ap {L : Lay} {H : Hp} {m : M} {es : List Int} (h : BkAt CO CB L H m es) : Ap L := by
  obtain ⟨dx, ob⟩ := h.ob
  obtain ⟨kvs, kd, _⟩ := h.kd
  obtain ⟨n1, n2, n3, n4, n5, n6⟩ := h.ne
  have tl := h.tl
  have lb := h.lb
  have ls := h.ls
  have wl := h.wl
  have ev := h.ev
  exact ⟨ne_of ob tl (fun e => by cases e), ne_of ob lb (fun e => by cases e), ne_of ob ls (fun e => by cases e), ne_of ob wl (fun e => by cases e), ne_of ob kd (fun e => by cases e), ne_of ob ev (fun e => by cases e), ne_of tl ob (fun e => by cases e), ne_of tl lb (fun e => by cases e), ne_of tl ls (fun e => by cases e), ne_of tl wl (fun e => by cases e), ne_of tl kd (fun e => by cases e), ne_of tl ev (fun e => by cases e), ne_of lb ob (fun e => by cases e), ne_of lb tl (fun e => by cases e), n1, n2, ne_of lb kd (fun e => by cases e), n4.symm, ne_of ls ob (fun e => by cases e), ne_of ls tl (fun e => by cases e), n1.symm, n3, ne_of ls kd (fun e => by cases e), n5.symm, ne_of wl ob (fun e => by cases e), ne_of wl tl (fun e => by cases e), n2.symm, n3.symm, ne_of wl kd (fun e => by cases e), n6.symm, ne_of kd ob (fun e => by cases e), ne_of kd tl (fun e => by cases e), ne_of kd lb (fun e => by cases e), ne_of kd ls (fun e => by cases e), ne_of kd wl (fun e => by cases e), ne_of kd ev (fun e => by cases e), ne_of ev ob (fun e => by cases e), ne_of ev tl (fun e => by cases e), n4, n5, n6, ne_of ev kd (fun e => by cases e)⟩
/-- an order stands apart from the book's own parts -/
structure Ao (L : Lay) (a : Addr) : Prop where
  bk : a ≠ L.bk
  rbk : L.bk ≠ a
  tl : a ≠ L.tl
  rtl : L.tl ≠ a
  lb : a ≠ L.lb
  rlb : L.lb ≠ a
  ls : a ≠ L.ls
  rls : L.ls ≠ a
  wl : a ≠ L.wl
  rwl : L.wl ≠ a
  kd : a ≠ L.kd
  rkd : L.kd ≠ a
  ev : a ≠ L.ev
  rev : L.ev ≠ a
theorem BkAt.ao {L : Lay} {H : Hp} {m : M} {es : List Int} (h : BkAt CO CB L H m es) {a : Addr} {x : W} (ha : OAt CO H a x) : Ao L a := by
  obtain ⟨dx, ob⟩ := h.ob
  obtain ⟨kvs, kd, _⟩ := h.kd
  obtain ⟨da, ha⟩ := ha
  have tl := h.tl
  have lb := h.lb
  have ls := h.ls
  have wl := h.wl
  have ev := h.ev
  exact ⟨(ne_of ob ha bF_oF).symm, ne_of ob ha bF_oF, ne_of ha tl (fun e => by cases e), ne_of tl ha (fun e => by cases e), ne_of ha lb (fun e => by cases e), ne_of lb ha (fun e => by cases e), ne_of ha ls (fun e => by cases e), ne_of ls ha (fun e => by cases e), ne_of ha wl (fun e => by cases e), ne_of wl ha (fun e => by cases e), ne_of ha kd (fun e => by cases e), ne_of kd ha (fun e => by cases e), ne_of ha ev (fun e => by cases e), ne_of ev ha (fun e => by cases e)⟩
theorem fr_at {xs : List Addr} {H H' : Hp} (f : Fr xs H H') {b : Addr} {o : HO} (e : H b = some o) (h : ∀ x ∈ xs, b ≠ x) : H' b = some o := f b o e fun hm => h b hm rfl
theorem fr_1 {x b : Addr} {H H' : Hp} (f : Fr [x] H H') {o : HO} (e : H b = some o) (h : b ≠ x) : H' b = some o := fr_at f e fun y hy => by
  rw [List.mem_singleton.mp hy]
  exact h
theorem fr_nil {H H' : Hp} (f : Fr [] H H') {b : Addr} {o : HO} (e : H b = some o) : H' b = some o := fr_at f e fun y hy => nomatch hy
theorem Fr.refl (xs : List Addr) (H : Hp) : Fr xs H H := fun _ _ e _ => e
theorem Fr.trans {xs ys zs : List Addr} {H H1 H2 : Hp} (f : Fr xs H H1) (g : Fr ys H1 H2) (h1 : ∀ b ∈ xs, b ∈ zs ∨ H b = none) (h2 : ∀ b ∈ ys, b ∈ zs ∨ H b = none) : Fr zs H H2 := fun b o e hb => by
  have k : ∀ l : List Addr, (∀ b ∈ l, b ∈ zs ∨ H b = none) → b ∉ l := fun l hl hm => by
    rcases hl b hm with h | h
    · exact hb h
    · rw [e] at h
      cases h
  exact g b o (f b o e (k xs h1)) (k ys h2)
theorem Fr.mono {xs ys : List Addr} {H H' : Hp} (f : Fr xs H H') (h : ∀ b ∈ xs, b ∈ ys ∨ H b = none) : Fr ys H H' := fun b o e hb => f b o e fun hm => by
  rcases h b hm with h | h
  · exact hb h
  · rw [e] at h
    cases h
theorem fr_upd {a : Addr} {o : HO} {H : Hp} : Fr [a] H (upd H a o) := fun b u e hb => by
  rw [upd_ne (fun z => hb (List.mem_singleton.mpr z))]
  exact e
theorem fr_new {a : Addr} {o : HO} {H : Hp} (h : H a = none) : Fr [] H (upd H a o) := fun b u e _ => by
  rw [upd_ne (ne_of_none e h)]
  exact e
/-- nothing of the book is touched -/
theorem BkAt.keep {L : Lay} {H H' : Hp} {m : M} {es : List Int} {xs : List Addr} (h : BkAt CO CB L H m es) (f : Fr xs H H') (hx : ∀ b ∈ xs, (b ≠ L.bk ∧ b ≠ L.tl ∧ b ≠ L.lb ∧ b ≠ L.ls ∧ b ≠ L.wl ∧ b ≠ L.kd ∧ b ≠ L.ev) ∧ ∀ r ∈ m.all, b ≠ r.a) : BkAt CO CB L H' m es := by
  obtain ⟨⟨dx, ob⟩, tl, lb, ls, wl, ⟨kvs, kd, kn⟩, ev, od, ne, ok⟩ := h
  refine ⟨⟨dx, fr_at f ob fun x m => (hx x m).1.1.symm⟩, fr_at f tl fun x m => (hx x m).1.2.1.symm, fr_at f lb fun x m => (hx x m).1.2.2.1.symm, fr_at f ls fun x m => (hx x m).1.2.2.2.1.symm, fr_at f wl fun x m => (hx x m).1.2.2.2.2.1.symm, ⟨kvs, fr_at f kd fun x m => (hx x m).1.2.2.2.2.2.1.symm, kn⟩, fr_at f ev fun x m => (hx x m).1.2.2.2.2.2.2.symm, fun r hr => ?_, ne, ok⟩
  obtain ⟨dr, e⟩ := od r hr
  exact ⟨dr, fr_at f e fun x m => ((hx x m).2 r hr).symm⟩
theorem BkAt.keep0 {L : Lay} {H H' : Hp} {m : M} {es : List Int} (h : BkAt CO CB L H m es) (f : Fr [] H H') : BkAt CO CB L H' m es := h.keep f fun b hb => nomatch hb
theorem oat_keep {H H' : Hp} {a : Addr} {x : W} {xs : List Addr} (h : OAt CO H a x) (f : Fr xs H H') (hx : ∀ b ∈ xs, a ≠ b) : OAt CO H' a x := by
  obtain ⟨dx, e⟩ := h
  exact ⟨dx, fr_at f e hx⟩
/-- an order that is not the book's -/
theorem BkAt.keepO {L : Lay} {H H' : Hp} {m : M} {es : List Int} {a : Addr} {x : W} (h : BkAt CO CB L H m es) (ha : OAt CO H a x) (hm : a ∉ m.all.map (·.a)) (f : Fr [a] H H') : BkAt CO CB L H' m es := by
  have A := h.ao ha
  refine h.keep f fun b hb => ?_
  rw [List.mem_singleton.mp hb]
  exact ⟨⟨A.bk, A.tl, A.lb, A.ls, A.wl, A.kd, A.ev⟩, fun r hr e => hm (e ▸ List.mem_map.mpr ⟨r, hr, rfl⟩)⟩
/-- events told -/
theorem BkAt.tell {L : Lay} {H H' : Hp} {m : M} {es es' : List Int} (h : BkAt CO CB L H m es) (he : H' L.ev = some (.lst (es'.map V.int))) (f : Fr [L.ev] H H') : BkAt CO CB L H' m es' := by
  have A := h.ap
  have O := fun r hr => (h.ao (h.od r hr))
  obtain ⟨⟨dx, ob⟩, tl, lb, ls, wl, ⟨kvs, kd, kn⟩, ev, od, ne, ok⟩ := h
  exact ⟨⟨dx, fr_1 f ob A.bk_ev⟩, fr_1 f tl A.tl_ev, fr_1 f lb A.lb_ev, fr_1 f ls A.ls_ev, fr_1 f wl A.wl_ev, ⟨kvs, fr_1 f kd A.kd_ev, kn⟩, he, fun r hr => oat_keep (od r hr) f fun b hb => by
    rw [List.mem_singleton.mp hb]
    exact (O r hr).ev, ne, ok⟩
theorem tyL {l : Addr} {xs : List V} {H : Hp} (h : H l = some (.lst xs)) : tyV K "list" (.ref l) H := .inl ⟨rfl, xs, SqL.of h⟩
/-! ### tell, answer, end -/
def spTell (K : PySem.W.Frag) (CO CB : Addr) : Sp := fun vs H Q _ => ∃ (L : Lay) (dx : Addr) (la : Nat) (c : Bool) (es : List Int) (e n o p a l : Int), vs = [.ref L.bk, .int e, .int n, .int o, .int p, .int a, .int l] ∧ H L.bk = some (.ins CB dx (bF L la c)) ∧ H L.ev = some (.lst (es.map V.int)) ∧
  es.length ≤ 10000000 ∧ ∀ H', H' L.ev = some (.lst ((es ++ [e, n, o, p, a, l]).map V.int)) → Fr [L.ev] H H' → Q .non H'
theorem ln_Book_tell {vs : List V} {H : Hp} {Q : VK} {E : XK} (h : spTell K CO CB vs H Q E) : vs.length = 7 := by
  obtain ⟨L, dx, la, c, es, e, n, o, p, a, l, rfl, _⟩ := h
  rfl
theorem big {n : Nat} (h : n ≤ 16000000) : n < sizeLine := Nat.lt_of_le_of_lt h (by rw [PySem.sizeLine_eq]; decide)
theorem bigL {n : Nat} (h : n ≤ 16000000) : n ≤ sizeLine := Nat.le_of_lt (big h)
theorem ok_Book_tell {f : Addr} {fd : FuncData} (F : Fun K "tell" "Book.tell" s_Book_tell f fd) (T : Txt K mg CO CB)  : FnOk P w K mg base CX0 1 f fd ["self", "event", "number", "other", "price", "amount", "left"] (spTell K CO CB) := by
  refine F.ok sc_Book_tell (fun vs H Q E h => ln_Book_tell h) (fun cdv A outer s H vs Q E hr h => ?_)
  have hu := hu_of hr
  refine ⟨_, (pss_one (ps_expr (pe_bm PySem.F.plainAttrs_list PySem.F.slot_list_extend PySem.F.type_list_extend mt_extend (pe_fld (pv 0) rfl) (pa_cons (pe_lst (pa_cons (pv 1) (pa_cons (pv 2) (pa_cons (pv 3) (pa_cons (pv 4) (pa_cons (pv 5) (pa_cons (pv 6) pa_nil))))))) pa_nil)))), ?_⟩

  obtain ⟨L, dx, la, c, es, e, n, o, p, a, l, rfl, hb, he, hz, kk⟩ := h
  rw [show L2.start ["self", "event", "number", "other", "price", "amount", "left"] [V.ref L.bk, V.int e, V.int n, V.int o, V.int p, V.int a, V.int l] = [some (.ref L.bk), some (.int e), some (.int n), some (.int o), some (.int p), some (.int a), some (.int l)] from rfl]
  have ty : tyV K "list" (.ref L.ev) H := tyL he
  simp only [cxOf, Cx.nox, tSeq, tNext, tRet, tRetN, tDrop, tIfS, tVar, tC, tOp, tUn, tTest, tB, tAnd, tOr, tNot, tAndV, tOrV, tNotV, tIf, tFld, sFld, sFldAug, tAsg, gName, tAug, tCons, tNil, tCB, tCall, tMeth, tChain, rI0, rI, CDiv, rU, L2.rAdd, L2.rSub, ipI, List.getElem?_cons_zero, List.getElem?_cons_succ, List.set_cons_zero, List.set_cons_succ, Option.some.injEq, exists_eq_left', exists_eq_left, V.ref.injEq, V.int.injEq, V.bl.injEq, HO.ins.injEq, and_assoc, true_and, and_true, exists_and_left, List.cons.injEq, List.append_nil, List.cons_append, List.nil_append, x_eq, x_ne, oF_inj, if_true, if_false, Bool.false_eq_true, ite_true, ite_false, eq_self_iff_true, T.clO, T.nO_number, T.nO_who, T.nO_side, T.nO_kind, T.nO_price, T.nO_amount, T.nO_trigger, oF_number, oF_who, oF_side, oF_kind, oF_price, oF_amount, oF_trigger, oF_put_number, oF_put_who, oF_put_side, oF_put_kind, oF_put_price, oF_put_amount, oF_put_trigger, T.clB, T.nB_lines, T.nB_waiting, T.nB_known, T.nB_latest, T.nB_in_auction, T.nB_events, bF_lines, bF_waiting, bF_known, bF_latest, bF_in_auction, bF_events, bF_put_latest, bF_put_in_auction, bF_put_events, hb, tBM, tLst, ty]
  refine ⟨bigL (by show 6 ≤ 16000000; omega), fun q hq => ?_⟩
  have nq : L.ev ≠ q := ne_of_none he hq
  refine ⟨L.ev, q, _, _, rfl, rfl, (upd_ne nq).trans he, upd_same, ?_, ?_⟩
  · rw [List.length_map]
    exact bigL (by show es.length + 6 ≤ _; omega)
  · refine kk _ ?_ ?_
    · rw [upd_same, List.map_append]
      rfl
    · intro b u eb hm
      rw [upd_ne (fun z => hm (by rw [z]; exact List.mem_singleton.mpr rfl)), upd_ne (ne_of_none eb hq)]
      exact eb
def spAnswer (K : PySem.W.Frag) (CO CB : Addr) : Sp := fun vs H Q _ => ∃ (L : Lay) (m : M) (es : List Int), vs = [.ref L.bk] ∧ BkAt CO CB L H m es ∧ es.length ≤ 10000000 ∧
  ∀ H' q ev', H q = none → H ev' = none → q ≠ ev' → BkAt CO CB { L with ev := ev' } H' m [] → H' q = some (.lst ((((es.length / 6 : Nat) : Int) :: es).map V.int)) → Fr [L.bk] H H' → Q (.ref q) H'
theorem ln_Book_answer {vs : List V} {H : Hp} {Q : VK} {E : XK} (h : spAnswer K CO CB vs H Q E) : vs.length = 1 := by
  obtain ⟨L, m, es, rfl, _⟩ := h
  rfl
theorem ok_Book_answer {f : Addr} {fd : FuncData} (F : Fun K "answer" "Book.answer" s_Book_answer f fd) (T : Txt K mg CO CB)  : FnOk P w K mg base CX0 1 f fd ["self"] (spAnswer K CO CB) := by
  refine F.ok sc_Book_answer (fun vs H Q E h => ln_Book_answer h) (fun cdv A outer s H vs Q E hr h => ?_)
  have hu := hu_of hr
  refine ⟨_, (pss_cons (ps_set (i := 1) sc_Book_answer.nd rfl (Or.inl rfl) (pe_fld (pv 0) rfl))
    (pss_cons (ps_fld (pv 0) (pe_lst pa_nil) rfl)
    (pss_one (ps_ret (pe_op op_cat (pe_lst (pa_cons (pe_op op_fdiv (pe_callB call_len_seq (by rfl) T.b_len PySem.boot_len (pa_cons (pv 1) pa_nil)) (pg_int rfl T.c_NUMBERS_OF_AN_EVENT)) pa_nil)) (pv 1)))))), ?_⟩

  obtain ⟨L, m, es, rfl, B, hz, kk⟩ := h
  rw [show L2.start ["self", "told"] [V.ref L.bk] = [some (.ref L.bk), none] from rfl]
  have A := B.ap
  obtain ⟨dx, hb⟩ := B.ob
  have he := B.ev
  simp only [cxOf, Cx.nox, tSeq, tNext, tRet, tRetN, tDrop, tIfS, tVar, tC, tOp, tUn, tTest, tB, tAnd, tOr, tNot, tAndV, tOrV, tNotV, tIf, tFld, sFld, sFldAug, tAsg, gName, tAug, tCons, tNil, tCB, tCall, tMeth, tChain, rI0, rI, CDiv, rU, L2.rAdd, L2.rSub, ipI, List.getElem?_cons_zero, List.getElem?_cons_succ, List.set_cons_zero, List.set_cons_succ, Option.some.injEq, exists_eq_left', exists_eq_left, V.ref.injEq, V.int.injEq, V.bl.injEq, HO.ins.injEq, and_assoc, true_and, and_true, exists_and_left, List.cons.injEq, List.append_nil, List.cons_append, List.nil_append, x_eq, x_ne, oF_inj, if_true, if_false, Bool.false_eq_true, ite_true, ite_false, eq_self_iff_true, T.clO, T.nO_number, T.nO_who, T.nO_side, T.nO_kind, T.nO_price, T.nO_amount, T.nO_trigger, oF_number, oF_who, oF_side, oF_kind, oF_price, oF_amount, oF_trigger, oF_put_number, oF_put_who, oF_put_side, oF_put_kind, oF_put_price, oF_put_amount, oF_put_trigger, T.clB, T.nB_lines, T.nB_waiting, T.nB_known, T.nB_latest, T.nB_in_auction, T.nB_events, bF_lines, bF_waiting, bF_known, bF_latest, bF_in_auction, bF_events, bF_put_latest, bF_put_in_auction, bF_put_events, hb, tLst]
  refine ⟨by decide, fun ev' hev => ?_⟩
  have n1 : L.bk ≠ ev' := ne_of_none hb hev
  have n2 : L.ev ≠ ev' := ne_of_none he hev
  have hb2 : (upd H ev' (.lst [])) L.bk = some (.ins CB dx (bF L m.last m.auc)) := (upd_ne n1).trans hb
  simp only [cxOf, Cx.nox, tSeq, tNext, tRet, tRetN, tDrop, tIfS, tVar, tC, tOp, tUn, tTest, tB, tAnd, tOr, tNot, tAndV, tOrV, tNotV, tIf, tFld, sFld, sFldAug, tAsg, gName, tAug, tCons, tNil, tCB, tCall, tMeth, tChain, rI0, rI, CDiv, rU, L2.rAdd, L2.rSub, ipI, List.getElem?_cons_zero, List.getElem?_cons_succ, List.set_cons_zero, List.set_cons_succ, Option.some.injEq, exists_eq_left', exists_eq_left, V.ref.injEq, V.int.injEq, V.bl.injEq, HO.ins.injEq, and_assoc, true_and, and_true, exists_and_left, List.cons.injEq, List.append_nil, List.cons_append, List.nil_append, x_eq, x_ne, oF_inj, if_true, if_false, Bool.false_eq_true, ite_true, ite_false, eq_self_iff_true, T.clO, T.nO_number, T.nO_who, T.nO_side, T.nO_kind, T.nO_price, T.nO_amount, T.nO_trigger, oF_number, oF_who, oF_side, oF_kind, oF_price, oF_amount, oF_trigger, oF_put_number, oF_put_who, oF_put_side, oF_put_kind, oF_put_price, oF_put_amount, oF_put_trigger, T.clB, T.nB_lines, T.nB_waiting, T.nB_known, T.nB_latest, T.nB_in_auction, T.nB_events, bF_lines, bF_waiting, bF_known, bF_latest, bF_in_auction, bF_events, bF_put_latest, bF_put_in_auction, bF_put_events, hb2, bF_len]
  have ev1 : (upd (upd H ev' (.lst [])) L.bk (.ins CB dx (bF { L with ev := ev' } m.last m.auc))) L.ev = some (.lst (es.map V.int)) := by
    rw [upd_ne A.ev_bk, upd_ne n2]
    exact he
  have f1 : Fr [L.bk] H (upd (upd H ev' (.lst [])) L.bk (.ins CB dx (bF { L with ev := ev' } m.last m.auc))) :=
    (fr_new hev).trans fr_upd (fun b hb => nomatch hb) (fun b hb => .inl hb)
  have bk1 : (upd (upd H ev' (.lst [])) L.bk (.ins CB dx (bF { L with ev := ev' } m.last m.auc))) L.bk = some (.ins CB dx (bF { L with ev := ev' } m.last m.auc)) := upd_same
  have nv1 : (upd (upd H ev' (.lst [])) L.bk (.ins CB dx (bF { L with ev := ev' } m.last m.auc))) ev' = some (.lst []) := by
    rw [upd_ne n1.symm]
    exact upd_same
  generalize (upd (upd H ev' (.lst [])) L.bk (.ins CB dx (bF { L with ev := ev' } m.last m.auc))) = H1 at ev1 f1 bk1 nv1
  refine ⟨by decide, es.map V.int, .inl (SqL.of ev1), by decide, by decide, bigL (by show 1 ≤ 16000000; omega), fun p hp => ?_⟩
  have n3 : L.ev ≠ p := ne_of_none ev1 hp
  refine ⟨p, L.ev, _, _, rfl, rfl, upd_same, (upd_ne n3).trans ev1, ?_, fun q hq => ?_⟩
  · rw [List.length_map]
    exact bigL (by show 1 + es.length ≤ _; omega)
  have npq : p ≠ q := ne_of_none (upd_same (H := H1) (a := p)) hq
  have hq1 : H1 q = none := by
    cases e : H1 q with
    | none => rfl
    | some u =>
      have : (upd H1 p (.lst [V.int ((List.map V.int es).length / 6)])) q = some u := (upd_ne npq.symm).trans e
      rw [this] at hq
      cases hq
  have hq0 : H q = none := by
    cases e : H q with
    | none => rfl
    | some u =>
      by_cases c : q = L.bk
      · rw [c, bk1] at hq1
        cases hq1
      · rw [fr_1 f1 e c] at hq1
        cases hq1
  have nqv : q ≠ ev' := (ne_of_none nv1 hq1).symm
  have fr2 : Fr [L.bk] H (upd (upd H1 p (.lst [V.int ((List.map V.int es).length / 6)])) q (.lst ([V.int ((List.map V.int es).length / 6)] ++ List.map V.int es))) :=
    f1.trans ((fr_new hp).trans (fr_new hq) (zs := []) (fun b hb => nomatch hb) (fun b hb => nomatch hb)) (fun b hb => .inl hb) (fun b hb => nomatch hb)
  refine kk _ q ev' hq0 hev nqv ?_ ?_ fr2
  · obtain ⟨_, tl, lb, ls, wl, ⟨kvs, kd, kn⟩, ev, od, ne, ok⟩ := id B
    have g : ∀ {b : Addr} {o : HO}, H1 b = some o → (upd (upd H1 p (.lst [V.int ((List.map V.int es).length / 6)])) q (.lst ([V.int ((List.map V.int es).length / 6)] ++ List.map V.int es))) b = some o := fun e => by
      rw [upd_ne (ne_of_none e hq1), upd_ne (ne_of_none e hp)]
      exact e
    refine ⟨⟨dx, g bk1⟩, g (fr_1 f1 tl A.tl_bk), g (fr_1 f1 lb A.lb_bk), g (fr_1 f1 ls A.ls_bk), g (fr_1 f1 wl A.wl_bk), ⟨kvs, g (fr_1 f1 kd A.kd_bk), kn⟩, g nv1, fun r hr => ?_, ?_, ok⟩
    · obtain ⟨dr, e⟩ := od r hr
      exact ⟨dr, g (fr_1 f1 e (B.ao (od r hr)).bk)⟩
    · exact ⟨ne.1, ne.2.1, ne.2.2.1, (ne_of_none lb hev).symm, (ne_of_none ls hev).symm, (ne_of_none wl hev).symm⟩
  · rw [upd_same, List.length_map]
    rfl
def spEnd (K : PySem.W.Frag) (CO CB : Addr) : Sp := fun vs H Q _ => ∃ (L : Lay) (m : M) (es : List Int) (a : Addr) (x : W) (y : Int), vs = [.ref L.bk, .ref a, .int y] ∧ BkAt CO CB L H m es ∧ OAt CO H a x ∧ es.length ≤ 10000000 ∧
  ∀ H', BkAt CO CB L H' m (es ++ [3, x.n, y, x.p, x.m, 0]) → Fr [L.ev] H H' → Q .non H'
theorem ln_Book_end {vs : List V} {H : Hp} {Q : VK} {E : XK} (h : spEnd K CO CB vs H Q E) : vs.length = 3 := by
  obtain ⟨L, m, es, a, x, y, rfl, _⟩ := h
  rfl
theorem ok_Book_end {f : Addr} {fd : FuncData} (F : Fun K "end" "Book.end" s_Book_end f fd) (T : Txt K mg CO CB) {f_Book_tell : Addr} {d_Book_tell : FuncData} (G_tell : Gm P w K mg base 1 CB "tell" f_Book_tell d_Book_tell ["self", "event", "number", "other", "price", "amount", "left"] (spTell K CO CB)) : FnOk P w K mg base CX0 2 f fd ["self", "order", "why"] (spEnd K CO CB) := by
  refine F.ok sc_Book_end (fun vs H Q E h => ln_Book_end h) (fun cdv A outer s H vs Q E hr h => ?_)
  have hu := hu_of hr
  refine ⟨_, (pss_one (ps_expr (pe_meth (pv 0) T.clB G_tell.m G_tell.ok (hr.mono (by decide)) G_tell.b .nil pass0 (pa_cons (pg_int rfl T.c_ENDED) (pa_cons (pe_fld (pv 1) rfl) (pa_cons (pv 2) (pa_cons (pe_fld (pv 1) rfl) (pa_cons (pe_fld (pv 1) rfl) (pa_cons pe_int pa_nil))))))))), ?_⟩

  obtain ⟨L, m, es, a, x, y, rfl, B, ⟨da, ha⟩, hz, kk⟩ := h
  rw [show L2.start ["self", "order", "why"] [V.ref L.bk, V.ref a, V.int y] = [some (.ref L.bk), some (.ref a), some (.int y)] from rfl]
  obtain ⟨dx, hb⟩ := B.ob
  simp only [cxOf, Cx.nox, tSeq, tNext, tRet, tRetN, tDrop, tIfS, tVar, tC, tOp, tUn, tTest, tB, tAnd, tOr, tNot, tAndV, tOrV, tNotV, tIf, tFld, sFld, sFldAug, tAsg, gName, tAug, tCons, tNil, tCB, tCall, tMeth, tChain, rI0, rI, CDiv, rU, L2.rAdd, L2.rSub, ipI, List.getElem?_cons_zero, List.getElem?_cons_succ, List.set_cons_zero, List.set_cons_succ, Option.some.injEq, exists_eq_left', exists_eq_left, V.ref.injEq, V.int.injEq, V.bl.injEq, HO.ins.injEq, and_assoc, true_and, and_true, exists_and_left, List.cons.injEq, List.append_nil, List.cons_append, List.nil_append, x_eq, x_ne, oF_inj, if_true, if_false, Bool.false_eq_true, ite_true, ite_false, eq_self_iff_true, T.clO, T.nO_number, T.nO_who, T.nO_side, T.nO_kind, T.nO_price, T.nO_amount, T.nO_trigger, oF_number, oF_who, oF_side, oF_kind, oF_price, oF_amount, oF_trigger, oF_put_number, oF_put_who, oF_put_side, oF_put_kind, oF_put_price, oF_put_amount, oF_put_trigger, T.clB, T.nB_lines, T.nB_waiting, T.nB_known, T.nB_latest, T.nB_in_auction, T.nB_events, bF_lines, bF_waiting, bF_known, bF_latest, bF_in_auction, bF_events, bF_put_latest, bF_put_in_auction, bF_put_events, hb, ha, bF_no_tell]
  exact ⟨L, dx, _, _, es, _, _, _, _, _, _, rfl, hb, B.ev, hz, fun H' h1 f => kk H' (B.tell h1 f) f⟩
end
end SB
namespace SB
open PySem PySem.Spec PyProof.Rows L2
section
/-! ### what is known by its number -/
theorem valV_dropK {κ : Type} [DecidableEq κ] {k j : κ} : ∀ (kvs : List (κ × V)), valV (dropK kvs k) j = if j = k then none else valV kvs j
  | [] => by
    show none = if j = k then none else none
    split <;> rfl
  | p :: l => by
    have ih := valV_dropK (k := k) (j := j) l
    by_cases e : p.1 = k
    · rw [dropK_pos e, ih]
      by_cases c : j = k
      · rw [if_pos c, if_pos c]
      · rw [if_neg c, if_neg c, valV_neg (fun z => c (z.symm.trans e))]
    · rw [dropK_neg e]
      by_cases c : j = k
      · rw [if_pos c] at ih ⊢
        rw [valV_neg (fun z => e (z.trans c)), ih]
      · rw [if_neg c] at ih ⊢
        by_cases c2 : p.1 = j
        · rw [valV_pos c2, valV_pos c2]
        · rw [valV_neg c2, valV_neg c2, ih]
theorem inl_ne {a b : Int} (h : a ≠ b) : ¬ (Sum.inl a : Key) = Sum.inl b := fun e => h (Sum.inl.inj e)
theorem Known.none {kvs : List (Key × V)} {l : List R} (kn : Known kvs l) {z : Int} (h : ∀ r ∈ l, (r.o.id : Int) ≠ z) : valV kvs (Sum.inl z : Key) = none := by
  cases e : valV kvs (Sum.inl z : Key) with
  | none => rfl
  | some v =>
    obtain ⟨r, hr, e1, _⟩ := kn.off z v e
    exact absurd e1 (h r hr)
theorem Known.put {kvs : List (Key × V)} {l l' : List R} {r : R} (kn : Known kvs l) (hi : r.o.id ∉ l.map fun r => r.o.id) (p : l'.Perm (r :: l)) : Known (putK kvs (Sum.inl (r.o.id : Int) : Key) (.ref r.a)) l' := by
  have nid : ∀ x ∈ l, (x.o.id : Int) ≠ (r.o.id : Int) := fun x hx e => hi (List.mem_map.mpr ⟨x, hx, by omega⟩)
  have e0 := kn.none nid
  refine ⟨fun x hx => ?_, fun z v e => ?_, ?_, nd_putK _ kn.nd e0⟩
  · rw [valV_put]
    rcases List.mem_cons.mp (p.mem_iff.mp hx) with h | h
    · rw [h, if_pos rfl]
    · rw [if_neg (inl_ne (nid x h))]
      exact kn.on x h
  · rw [valV_put] at e
    by_cases c : z = (r.o.id : Int)
    · rw [if_pos (by rw [c])] at e
      exact ⟨r, p.mem_iff.mpr (List.mem_cons_self ..), c.symm, (Option.some.inj e).symm⟩
    · rw [if_neg (inl_ne c)] at e
      obtain ⟨x, hx, e1, e2⟩ := kn.off z v e
      exact ⟨x, p.mem_iff.mpr (List.mem_cons_of_mem _ hx), e1, e2⟩
  · rw [putK_new _ e0, List.length_append, p.length_eq, kn.len]
    rfl
theorem filter_one {l : List R} {r : R} (hn : (l.map fun r => r.o.id).Nodup) (hr : r ∈ l) : (l.filter fun x => x.o.id != r.o.id).length + 1 = l.length := by
  induction l with
  | nil => cases hr
  | cons a l ih =>
    rw [List.map_cons] at hn
    obtain ⟨h1, h2⟩ := List.nodup_cons.mp hn
    by_cases c : a.o.id = r.o.id
    · rw [List.filter_cons_of_neg (by simpa using c), List.length_cons]
      rw [filter_ne fun x hx e => h1 (by rw [c, ← e]; exact List.mem_map.mpr ⟨x, hx, rfl⟩)]
    · rw [List.filter_cons_of_pos (by simpa using c), List.length_cons, List.length_cons]
      rcases List.mem_cons.mp hr with h | h
      · rw [h] at c
        exact absurd rfl c
      · rw [ih h2 h]
theorem Known.drop {kvs : List (Key × V)} {l : List R} {r : R} (kn : Known kvs l) (hn : (l.map fun r => r.o.id).Nodup) (hr : r ∈ l) : Known (dropK kvs (Sum.inl (r.o.id : Int) : Key)) (l.filter fun x => x.o.id != r.o.id) := by
  refine ⟨fun x hx => ?_, fun z v e => ?_, ?_, nd_dropK kn.nd⟩
  · obtain ⟨h1, h2⟩ := List.mem_filter.mp hx
    have h2 : x.o.id ≠ r.o.id := by simpa using h2
    rw [valV_dropK, if_neg (inl_ne (by omega))]
    exact kn.on x h1
  · rw [valV_dropK] at e
    by_cases c : z = (r.o.id : Int)
    · rw [if_pos (by rw [c])] at e
      cases e
    · rw [if_neg (inl_ne c)] at e
      obtain ⟨x, hx, e1, e2⟩ := kn.off z v e
      exact ⟨x, List.mem_filter.mpr ⟨hx, by simp; omega⟩, e1, e2⟩
  · have h1 := dropK_len kn.nd (valV_in (kn.on r hr))
    have h2 := filter_one hn hr
    have h3 := kn.len
    omega
theorem Known.perm {kvs : List (Key × V)} {l l' : List R} (kn : Known kvs l) (h1 : l'.map (fun r => (r.o.id, r.a)) = l.map fun r => (r.o.id, r.a)) : Known kvs l' := by
  have m : ∀ (i a : Nat), (∃ r ∈ l', r.o.id = i ∧ r.a = a) ↔ ∃ r ∈ l, r.o.id = i ∧ r.a = a := fun i a => by
    have e : (i, a) ∈ l'.map (fun r => (r.o.id, r.a)) ↔ (i, a) ∈ l.map (fun r => (r.o.id, r.a)) := by rw [h1]
    simp only [List.mem_map, Prod.mk.injEq] at e
    exact e
  refine ⟨fun r hr => ?_, fun z v e => ?_, ?_, kn.nd⟩
  · obtain ⟨x, hx, e1, e2⟩ := (m r.o.id r.a).mp ⟨r, hr, rfl, rfl⟩
    have := kn.on x hx
    rw [e1, e2] at this
    exact this
  · obtain ⟨x, hx, e1, e2⟩ := kn.off z v e
    obtain ⟨y, hy, e3, e4⟩ := (m x.o.id x.a).mpr ⟨x, hx, rfl, rfl⟩
    exact ⟨y, hy, by rw [e3]; exact e1, by rw [e4]; exact e2⟩
  · have := congrArg List.length h1
    rw [List.length_map, List.length_map] at this
    rw [kn.len, this]
end
section
variable {P : Program} {w : World} {K : PySem.W.Frag} {mg : Str → Option Value} {base : Heap} {CO CB : Addr}
/-! ### rest -/
def Lay.side (L : Lay) (buy : Bool) : Addr := if buy = true then L.lb else L.ls
/-- an order that is none of the book's -/
structure Out (r : R) (m : M) : Prop where
  a : r.a ∉ m.all.map (·.a)
  id : r.o.id ∉ m.all.map fun r => r.o.id
theorem BkAt.line {L : Lay} {H : Hp} {m : M} {es : List Int} (h : BkAt CO CB L H m es) (buy : Bool) : H (L.side buy) = some (.lst ((m.side buy).map R.v)) := by
  cases buy
  · exact h.ls
  · exact h.lb
theorem BkAt.rested {L : Lay} {H H' : Hp} {m : M} {es es' : List Int} {r : R} (h : BkAt CO CB L H m es) (ho : OAt CO H r.a r.w) (out : Out r m) (hk : r.k = 0 ∨ r.k = 4) {kvs : List (Key × V)} (hl : H' (L.side r.o.buy) = some (.lst ((ins r (m.side r.o.buy)).map R.v)))
    (hd : H L.kd = some (.dK kvs)) (hd' : H' L.kd = some (.dK (putK kvs (Sum.inl (r.o.id : Int) : Key) (.ref r.a)))) (he : H' L.ev = some (.lst (es'.map V.int))) (f : Fr [L.side r.o.buy, L.kd, L.ev] H H') : BkAt CO CB L H' (restM r m) es' := by
  have A := h.ap
  have Ar := h.ao ho
  have O := fun x hx => (h.ao (h.od x hx))
  have hn := h.ok.rest out.a out.id hk
  obtain ⟨⟨dx, ob⟩, tl, lb, ls, wl, ⟨kvs2, kd, kn⟩, ev, od, ne, ok⟩ := h
  rw [hd] at kd
  cases kd
  have kn' := kn.put out.id (rest_perm r m)
  have od' : ∀ x ∈ (restM r m).all, OAt CO H' x.a x.w := fun x hx => by
    rcases List.mem_cons.mp ((rest_perm r m).mem_iff.mp hx) with e | e
    · rw [e]
      refine oat_keep ho f fun b hb => ?_
      simp only [List.mem_cons, List.not_mem_nil, or_false] at hb
      unfold Lay.side at hb
      rcases hb with rfl | rfl | rfl
      · split
        · exact Ar.lb
        · exact Ar.ls
      · exact Ar.kd
      · exact Ar.ev
    · refine oat_keep (od x e) f fun b hb => ?_
      have Ax := O x e
      simp only [List.mem_cons, List.not_mem_nil, or_false] at hb
      unfold Lay.side at hb
      rcases hb with rfl | rfl | rfl
      · split
        · exact Ax.lb
        · exact Ax.ls
      · exact Ax.kd
      · exact Ax.ev
  cases hb : r.o.buy with
  | true =>
    rw [hb] at f hl
    have g : ∀ {b : Addr} {o : HO}, H b = some o → b ≠ L.lb → b ≠ L.kd → b ≠ L.ev → H' b = some o := fun e h1 h2 h3 => fr_at f e fun x hx => by
      simp only [List.mem_cons, List.not_mem_nil, or_false] at hx
      rcases hx with rfl | rfl | rfl
      · exact h1
      · exact h2
      · exact h3
    have e1 : (restM r m).last = m.last := by
      unfold restM
      rw [put_last]
    have e2 : (restM r m).auc = m.auc := by
      unfold restM
      rw [put_auc]
    have e3 : (restM r m).sells = m.sells := by
      unfold restM
      rw [hb]
      rfl
    have e4 : (restM r m).waits = m.waits := by
      unfold restM
      rw [put_waits]
    have e5 : (restM r m).buys = ins r m.buys := by
      unfold restM
      rw [hb]
      rfl
    refine ⟨⟨dx, by rw [e1, e2]; exact g ob A.bk_lb A.bk_kd A.bk_ev⟩, g tl A.tl_lb A.tl_kd A.tl_ev, by rw [e5]; exact hl, by rw [e3]; exact g ls A.ls_lb A.ls_kd A.ls_ev, by rw [e4]; exact g wl A.wl_lb A.wl_kd A.wl_ev, ⟨_, hd', kn'⟩, he, od', ne, hn⟩
  | false =>
    rw [hb] at f hl
    have g : ∀ {b : Addr} {o : HO}, H b = some o → b ≠ L.ls → b ≠ L.kd → b ≠ L.ev → H' b = some o := fun e h1 h2 h3 => fr_at f e fun x hx => by
      simp only [List.mem_cons, List.not_mem_nil, or_false] at hx
      rcases hx with rfl | rfl | rfl
      · exact h1
      · exact h2
      · exact h3
    have e1 : (restM r m).last = m.last := by
      unfold restM
      rw [put_last]
    have e2 : (restM r m).auc = m.auc := by
      unfold restM
      rw [put_auc]
    have e3 : (restM r m).buys = m.buys := by
      unfold restM
      rw [hb]
      rfl
    have e4 : (restM r m).waits = m.waits := by
      unfold restM
      rw [put_waits]
    have e5 : (restM r m).sells = ins r m.sells := by
      unfold restM
      rw [hb]
      rfl
    refine ⟨⟨dx, by rw [e1, e2]; exact g ob A.bk_ls A.bk_kd A.bk_ev⟩, g tl A.tl_ls A.tl_kd A.tl_ev, by rw [e3]; exact g lb A.lb_ls A.lb_kd A.lb_ev, by rw [e5]; exact hl, by rw [e4]; exact g wl A.wl_ls A.wl_kd A.wl_ev, ⟨_, hd', kn'⟩, he, od', ne, hn⟩
def spRest (K : PySem.W.Frag) (CO CB : Addr) : Sp := fun vs H Q _ => ∃ (L : Lay) (m : M) (es : List Int) (r : R), vs = [.ref L.bk, .ref r.a] ∧ BkAt CO CB L H m es ∧ OAt CO H r.a r.w ∧ Out r m ∧ (r.k = 0 ∨ r.k = 4) ∧ es.length ≤ 10000000 ∧ m.all.length ≤ 100000 ∧
  ∀ H', BkAt CO CB L H' (restM r m) (es ++ [2, (r.o.id : Int), 0, (r.o.price : Int), (r.o.amount : Int), 0]) → Fr [L.side r.o.buy, L.kd, L.ev] H H' → Q .non H'
theorem ln_Book_rest {vs : List V} {H : Hp} {Q : VK} {E : XK} (h : spRest K CO CB vs H Q E) : vs.length = 2 := by
  obtain ⟨L, m, es, r, rfl, _⟩ := h
  rfl
theorem ins_at (r : R) : ∀ l : List R, ins r l = l.take (placeOf r l) ++ [r] ++ l.drop (placeOf r l)
  | [] => rfl
  | x :: l => by
    unfold ins placeOf
    by_cases c : Sd17.better r.o.buy r.o.price x.o.price = true
    · rw [if_pos c, List.takeWhile_cons_of_neg (by simp [c])]
      rfl
    · rw [if_neg c, List.takeWhile_cons_of_pos (by simpa using c), ins_at r l]
      rfl
theorem side_ix (L : Lay) (buy : Bool) : atI [V.ref L.lb, V.ref L.ls] (if buy = true then 0 else 1) = some (.ref (L.side buy)) := by
  cases buy <;> rfl
theorem side_len {m : M} (buy : Bool) : (m.side buy).length ≤ m.all.length := by
  unfold M.all M.side
  rw [List.length_append, List.length_append]
  cases buy
  · show m.sells.length ≤ _
    omega
  · show m.buys.length ≤ _
    omega
theorem ok_Book_rest {f : Addr} {fd : FuncData} (F : Fun K "rest" "Book.rest" s_Book_rest f fd) (T : Txt K mg CO CB) {f_place_in : Addr} {d_place_in : FuncData} (G_place_in : Gd P w K mg base 2 "place_in" f_place_in d_place_in ["line", "order"] (spPlaceIn K CO)) {f_Book_tell : Addr} {d_Book_tell : FuncData} (G_tell : Gm P w K mg base 1 CB "tell" f_Book_tell d_Book_tell ["self", "event", "number", "other", "price", "amount", "left"] (spTell K CO CB)) : FnOk P w K mg base CX0 3 f fd ["self", "order"] (spRest K CO CB) := by
  refine F.ok sc_Book_rest (fun vs H Q E h => ln_Book_rest h) (fun cdv A outer s H vs Q E hr h => ?_)
  have hu := hu_of hr
  refine ⟨_, (pss_cons (ps_set (i := 2) sc_Book_rest.nd rfl (Or.inl rfl) (pe_ix ix_tup (pe_fld (pv 0) rfl) (pe_fld (pv 1) rfl) (fun _ _ => rfl)))
    (pss_cons (ps_expr (pe_bm PySem.F.plainAttrs_list PySem.F.slot_list_insert PySem.F.type_list_insert mt_insert (pv 2) (pa_cons (pe_call G_place_in.ok (hr.mono (by decide)) rfl G_place_in.mg G_place_in.kp G_place_in.b .nil pass0 (pa_cons (pv 2) (pa_cons (pv 1) pa_nil))) (pa_cons (pv 1) pa_nil))))
    (pss_cons (ps_dput hu (pe_fld (pv 0) rfl) (pe_fld (pv 1) rfl) (pv 1) rfl)
    (pss_one (ps_expr (pe_meth (pv 0) T.clB G_tell.m G_tell.ok (hr.mono (by decide)) G_tell.b .nil pass0 (pa_cons (pg_int rfl T.c_RESTS) (pa_cons (pe_fld (pv 1) rfl) (pa_cons pe_int (pa_cons (pe_fld (pv 1) rfl) (pa_cons (pe_fld (pv 1) rfl) (pa_cons pe_int pa_nil)))))))))))), ?_⟩

  obtain ⟨L, m, es, r, rfl, B, ⟨dr, hr⟩, out, hk, hz, hm, kk⟩ := h
  rw [show L2.start ["self", "order", "line"] [V.ref L.bk, V.ref r.a] = [some (.ref L.bk), some (.ref r.a), none] from rfl]
  have AP := B.ap
  obtain ⟨dx, hb⟩ := B.ob
  have hL := B.line r.o.buy
  simp only [cxOf, Cx.nox, tSeq, tNext, tRet, tRetN, tDrop, tIfS, tVar, tC, tOp, tUn, tTest, tB, tAnd, tOr, tNot, tAndV, tOrV, tNotV, tIf, tFld, sFld, sFldAug, tAsg, gName, tAug, tCons, tNil, tCB, tCall, tMeth, tChain, sDPut, tDGet, tDIn, tDNotIn, tDGet1, tDPop1, tBM, tBM0, tLst, tTup, tDNewK, rI0, rI, CDiv, rU, L2.rAdd, L2.rSub, ipI, List.getElem?_cons_zero, List.getElem?_cons_succ, List.set_cons_zero, List.set_cons_succ, Option.some.injEq, exists_eq_left', exists_eq_left, V.ref.injEq, V.int.injEq, V.bl.injEq, HO.ins.injEq, HO.lst.injEq, HO.dK.injEq, HO.tup.injEq, and_assoc, true_and, and_true, exists_and_left, List.cons.injEq, List.append_nil, List.cons_append, List.nil_append, x_eq, x_ne, oF_inj, if_true, if_false, Bool.false_eq_true, ite_true, ite_false, eq_self_iff_true, T.clO, T.nO_number, T.nO_who, T.nO_side, T.nO_kind, T.nO_price, T.nO_amount, T.nO_trigger, oF_number, oF_who, oF_side, oF_kind, oF_price, oF_amount, oF_trigger, oF_put_number, oF_put_who, oF_put_side, oF_put_kind, oF_put_price, oF_put_amount, oF_put_trigger, T.clB, T.nB_lines, T.nB_waiting, T.nB_known, T.nB_latest, T.nB_in_auction, T.nB_events, bF_lines, bF_waiting, bF_known, bF_latest, bF_in_auction, bF_events, bF_put_latest, bF_put_in_auction, bF_put_events, hb, hr]
  refine ix_t B.tl (side_ix L r.o.buy) ?_
  have ty := tyL (K := K) hL
  simp only [cxOf, Cx.nox, tSeq, tNext, tRet, tRetN, tDrop, tIfS, tVar, tC, tOp, tUn, tTest, tB, tAnd, tOr, tNot, tAndV, tOrV, tNotV, tIf, tFld, sFld, sFldAug, tAsg, gName, tAug, tCons, tNil, tCB, tCall, tMeth, tChain, sDPut, tDGet, tDIn, tDNotIn, tDGet1, tDPop1, tBM, tBM0, tLst, tTup, tDNewK, rI0, rI, CDiv, rU, L2.rAdd, L2.rSub, ipI, List.getElem?_cons_zero, List.getElem?_cons_succ, List.set_cons_zero, List.set_cons_succ, Option.some.injEq, exists_eq_left', exists_eq_left, V.ref.injEq, V.int.injEq, V.bl.injEq, HO.ins.injEq, HO.lst.injEq, HO.dK.injEq, HO.tup.injEq, and_assoc, true_and, and_true, exists_and_left, List.cons.injEq, List.append_nil, List.cons_append, List.nil_append, x_eq, x_ne, oF_inj, if_true, if_false, Bool.false_eq_true, ite_true, ite_false, eq_self_iff_true, T.clO, T.nO_number, T.nO_who, T.nO_side, T.nO_kind, T.nO_price, T.nO_amount, T.nO_trigger, oF_number, oF_who, oF_side, oF_kind, oF_price, oF_amount, oF_trigger, oF_put_number, oF_put_who, oF_put_side, oF_put_kind, oF_put_price, oF_put_amount, oF_put_trigger, T.clB, T.nB_lines, T.nB_waiting, T.nB_known, T.nB_latest, T.nB_in_auction, T.nB_events, bF_lines, bF_waiting, bF_known, bF_latest, bF_in_auction, bF_events, bF_put_latest, bF_put_in_auction, bF_put_events, hb, hr, ty]
  refine ⟨L.side r.o.buy, r, m.side r.o.buy, rfl, ⟨dr, hr⟩, hL, fun q hq => B.od q (side_all hq), B.ok.srt r.o.buy, ?_⟩
  obtain ⟨kvs, hd, kn⟩ := B.kd
  have Ar := B.ao ⟨dr, hr⟩
  have ns : ∀ {b : Addr}, b ≠ L.lb → b ≠ L.ls → b ≠ L.side r.o.buy := fun h1 h2 => by
    unfold Lay.side
    split
    · exact h1
    · exact h2
  have hb2 : ∀ o, upd H (L.side r.o.buy) o L.bk = some (.ins CB dx (bF L m.last m.auc)) := fun o => (upd_ne (ns AP.bk_lb AP.bk_ls)).trans hb
  have hr2 : ∀ o, upd H (L.side r.o.buy) o r.a = some (.ins CO dr (oF r.w)) := fun o => (upd_ne (ns Ar.lb Ar.ls)).trans hr
  have hd2 : ∀ o, upd H (L.side r.o.buy) o L.kd = some (.dK kvs) := fun o => (upd_ne (ns AP.kd_lb AP.kd_ls)).trans hd
  have he2 : ∀ o, upd H (L.side r.o.buy) o L.ev = some (.lst (es.map V.int)) := fun o => (upd_ne (ns AP.ev_lb AP.ev_ls)).trans B.ev
  have sl := side_len (m := m) r.o.buy
  have pl : placeOf r (m.side r.o.buy) ≤ (m.side r.o.buy).length := by
    unfold placeOf
    exact (List.takeWhile_prefix _).sublist.length_le
  simp only [cxOf, Cx.nox, tSeq, tNext, tRet, tRetN, tDrop, tIfS, tVar, tC, tOp, tUn, tTest, tB, tAnd, tOr, tNot, tAndV, tOrV, tNotV, tIf, tFld, sFld, sFldAug, tAsg, gName, tAug, tCons, tNil, tCB, tCall, tMeth, tChain, sDPut, tDGet, tDIn, tDNotIn, tDGet1, tDPop1, tBM, tBM0, tLst, tTup, tDNewK, rI0, rI, CDiv, rU, L2.rAdd, L2.rSub, ipI, List.getElem?_cons_zero, List.getElem?_cons_succ, List.set_cons_zero, List.set_cons_succ, Option.some.injEq, exists_eq_left', exists_eq_left, V.ref.injEq, V.int.injEq, V.bl.injEq, HO.ins.injEq, HO.lst.injEq, HO.dK.injEq, HO.tup.injEq, and_assoc, true_and, and_true, exists_and_left, List.cons.injEq, List.append_nil, List.cons_append, List.nil_append, x_eq, x_ne, oF_inj, if_true, if_false, Bool.false_eq_true, ite_true, ite_false, eq_self_iff_true, T.clO, T.nO_number, T.nO_who, T.nO_side, T.nO_kind, T.nO_price, T.nO_amount, T.nO_trigger, oF_number, oF_who, oF_side, oF_kind, oF_price, oF_amount, oF_trigger, oF_put_number, oF_put_who, oF_put_side, oF_put_kind, oF_put_price, oF_put_amount, oF_put_trigger, T.clB, T.nB_lines, T.nB_waiting, T.nB_known, T.nB_latest, T.nB_in_auction, T.nB_events, bF_lines, bF_waiting, bF_known, bF_latest, bF_in_auction, bF_events, bF_put_latest, bF_put_in_auction, bF_put_events, hb2, hr2, hL, ty]
  refine ⟨?_, by omega, by omega, _, DPut.k (k := Sum.inl (r.o.id : Int)) (hd2 _) (big (by rw [kn.len]; omega)), ?_⟩
  · rw [List.length_map]
    exact big (by omega)
  have el : List.take (placeOf r (m.side r.o.buy) : Int).toNat (List.map R.v (m.side r.o.buy)) ++ [V.ref r.a] ++ List.drop (placeOf r (m.side r.o.buy) : Int).toNat (List.map R.v (m.side r.o.buy)) = (ins r (m.side r.o.buy)).map R.v := by
    rw [ins_at, Int.toNat_natCast, List.map_append, List.map_append, List.map_take, List.map_drop]
    rfl
  rw [el]
  have f2 : Fr [L.side r.o.buy, L.kd] H (upd (upd H (L.side r.o.buy) (.lst ((ins r (m.side r.o.buy)).map R.v))) L.kd (.dK (putK kvs (Sum.inl (r.o.id : Int) : Key) (.ref r.a)))) :=
    fr_upd.trans fr_upd (fun b hb => .inl (by rw [List.mem_singleton.mp hb]; simp)) (fun b hb => .inl (by rw [List.mem_singleton.mp hb]; simp))
  have k1 : (upd (upd H (L.side r.o.buy) (.lst ((ins r (m.side r.o.buy)).map R.v))) L.kd (.dK (putK kvs (Sum.inl (r.o.id : Int) : Key) (.ref r.a)))) L.bk = some (.ins CB dx (bF L m.last m.auc)) := (upd_ne AP.bk_kd).trans (hb2 _)
  have k2 : (upd (upd H (L.side r.o.buy) (.lst ((ins r (m.side r.o.buy)).map R.v))) L.kd (.dK (putK kvs (Sum.inl (r.o.id : Int) : Key) (.ref r.a)))) r.a = some (.ins CO dr (oF r.w)) := (upd_ne Ar.kd).trans (hr2 _)
  have k3 : (upd (upd H (L.side r.o.buy) (.lst ((ins r (m.side r.o.buy)).map R.v))) L.kd (.dK (putK kvs (Sum.inl (r.o.id : Int) : Key) (.ref r.a)))) L.ev = some (.lst (es.map V.int)) := (upd_ne AP.ev_kd).trans (he2 _)
  have k4 : (upd (upd H (L.side r.o.buy) (.lst ((ins r (m.side r.o.buy)).map R.v))) L.kd (.dK (putK kvs (Sum.inl (r.o.id : Int) : Key) (.ref r.a)))) (L.side r.o.buy) = some (.lst ((ins r (m.side r.o.buy)).map R.v)) := (upd_ne (ns AP.kd_lb AP.kd_ls).symm).trans upd_same
  have k5 : (upd (upd H (L.side r.o.buy) (.lst ((ins r (m.side r.o.buy)).map R.v))) L.kd (.dK (putK kvs (Sum.inl (r.o.id : Int) : Key) (.ref r.a)))) L.kd = some (.dK (putK kvs (Sum.inl (r.o.id : Int) : Key) (.ref r.a))) := upd_same
  generalize (upd (upd H (L.side r.o.buy) (.lst ((ins r (m.side r.o.buy)).map R.v))) L.kd (.dK (putK kvs (Sum.inl (r.o.id : Int) : Key) (.ref r.a)))) = H2 at f2 k1 k2 k3 k4 k5
  simp only [cxOf, Cx.nox, tSeq, tNext, tRet, tRetN, tDrop, tIfS, tVar, tC, tOp, tUn, tTest, tB, tAnd, tOr, tNot, tAndV, tOrV, tNotV, tIf, tFld, sFld, sFldAug, tAsg, gName, tAug, tCons, tNil, tCB, tCall, tMeth, tChain, sDPut, tDGet, tDIn, tDNotIn, tDGet1, tDPop1, tBM, tBM0, tLst, tTup, tDNewK, rI0, rI, CDiv, rU, L2.rAdd, L2.rSub, ipI, List.getElem?_cons_zero, List.getElem?_cons_succ, List.set_cons_zero, List.set_cons_succ, Option.some.injEq, exists_eq_left', exists_eq_left, V.ref.injEq, V.int.injEq, V.bl.injEq, HO.ins.injEq, HO.lst.injEq, HO.dK.injEq, HO.tup.injEq, and_assoc, true_and, and_true, exists_and_left, List.cons.injEq, List.append_nil, List.cons_append, List.nil_append, x_eq, x_ne, oF_inj, if_true, if_false, Bool.false_eq_true, ite_true, ite_false, eq_self_iff_true, T.clO, T.nO_number, T.nO_who, T.nO_side, T.nO_kind, T.nO_price, T.nO_amount, T.nO_trigger, oF_number, oF_who, oF_side, oF_kind, oF_price, oF_amount, oF_trigger, oF_put_number, oF_put_who, oF_put_side, oF_put_kind, oF_put_price, oF_put_amount, oF_put_trigger, T.clB, T.nB_lines, T.nB_waiting, T.nB_known, T.nB_latest, T.nB_in_auction, T.nB_events, bF_lines, bF_waiting, bF_known, bF_latest, bF_in_auction, bF_events, bF_put_latest, bF_put_in_auction, bF_put_events, k1, k2, bF_no_tell]
  refine ⟨L, dx, _, _, es, _, _, _, _, _, _, rfl, k1, k3, hz, fun H3 h3 f3 => ?_⟩
  have f4 : Fr [L.side r.o.buy, L.kd, L.ev] H H3 := f2.trans f3 (fun b hb => .inl (by
    simp only [List.mem_cons, List.not_mem_nil, or_false] at hb ⊢
    rcases hb with h | h
    · exact .inl h
    · exact .inr (.inl h))) (fun b hb => .inl (by rw [List.mem_singleton.mp hb]; simp))
  refine kk H3 (B.rested ⟨dr, hr⟩ out hk ?_ hd ?_ h3 f4) f4
  · exact fr_1 f3 k4 (ns AP.ev_lb AP.ev_ls).symm
  · exact fr_1 f3 k5 AP.kd_ev
end
end SB
namespace SB
open PySem PySem.Spec PyProof.Rows L2
section
variable {P : Program} {w : World} {K : PySem.W.Frag} {mg : Str → Option Value} {base : Heap} {CO CB : Addr}
/-! ### take_out -/
theorem kV_int {i : Int} {k : Key} : (V.int i = kV k) = (k = Sum.inl i) := by
  refine propext ⟨fun h => ?_, fun h => by rw [h]; rfl⟩
  cases k with
  | inl j =>
    have h : V.int i = V.int j := h
    rw [V.int.inj h]
  | inr s => exact V.noConfusion h
theorem erase_one {r : R} : ∀ {l : List R}, (l.map (·.a)).Nodup → (l.map fun r => r.o.id).Nodup → r ∈ l →
    ∃ j : Nat, (l.map (·.a))[j]? = some r.a ∧ (∀ i : Nat, i < j → (l.map (·.a))[i]? ≠ some r.a) ∧ (l.map (·.a)).eraseIdx j = (l.filter fun x => x.o.id != r.o.id).map (·.a)
  | [], _, _, h => by cases h
  | x :: l, na, ni, h => by
    rw [List.map_cons] at na ni
    obtain ⟨a1, a2⟩ := List.nodup_cons.mp na
    obtain ⟨i1, i2⟩ := List.nodup_cons.mp ni
    rcases List.mem_cons.mp h with e | e
    · subst e
      refine ⟨0, rfl, fun i hi => absurd hi (Nat.not_lt_zero i), ?_⟩
      rw [List.filter_cons_of_neg (by simp), filter_ne fun y hy z => i1 (by rw [← z]; exact List.mem_map.mpr ⟨y, hy, rfl⟩)]
      rfl
    · obtain ⟨j, j1, j2, j3⟩ := erase_one a2 i2 e
      have nx : x.o.id ≠ r.o.id := fun z => i1 (z ▸ List.mem_map.mpr ⟨r, e, rfl⟩)
      have ax : x.a ≠ r.a := fun z => a1 (z ▸ List.mem_map.mpr ⟨r, e, rfl⟩)
      refine ⟨j + 1, j1, fun i hi => ?_, ?_⟩
      · cases i with
        | zero =>
          show some x.a ≠ some r.a
          exact fun z => ax (Option.some.inj z)
        | succ i => exact j2 i (by omega)
      · rw [List.filter_cons_of_pos (by simpa using nx)]
        show x.a :: (l.map (·.a)).eraseIdx j = x.a :: _
        rw [j3]
theorem map_v (l : List R) : l.map R.v = (l.map (·.a)).map V.ref := by
  rw [List.map_map]
  rfl
theorem BkAt.deleted {L : Lay} {H H' : Hp} {m : M} {es : List Int} {r : R} (h : BkAt CO CB L H m es) (hr : r ∈ m.all) {kvs : List (Key × V)} (h1 : H' L.lb = some (.lst ((delM r.o.id m).buys.map R.v))) (h2 : H' L.ls = some (.lst ((delM r.o.id m).sells.map R.v)))
    (h3 : H' L.wl = some (.lst ((delM r.o.id m).waits.map R.v))) (hd : H L.kd = some (.dK kvs)) (h4 : H' L.kd = some (.dK (dropK kvs (Sum.inl (r.o.id : Int) : Key)))) (f : Fr [L.lb, L.ls, L.wl, L.kd] H H') : BkAt CO CB L H' (delM r.o.id m) es := by
  have A := h.ap
  have O := fun x hx => (h.ao (h.od x hx))
  have hn := h.ok.del r.o.id
  have hi := h.ok.ids
  obtain ⟨⟨dx, ob⟩, tl, lb, ls, wl, ⟨kvs2, kd, kn⟩, ev, od, ne, ok⟩ := h
  rw [hd] at kd
  cases kd
  have g : ∀ {b : Addr} {o : HO}, H b = some o → b ≠ L.lb → b ≠ L.ls → b ≠ L.wl → b ≠ L.kd → H' b = some o := fun e h1 h2 h3 h4 => fr_at f e fun x hx => by
    simp only [List.mem_cons, List.not_mem_nil, or_false] at hx
    rcases hx with rfl | rfl | rfl | rfl
    · exact h1
    · exact h2
    · exact h3
    · exact h4
  refine ⟨⟨dx, g ob A.bk_lb A.bk_ls A.bk_wl A.bk_kd⟩, g tl A.tl_lb A.tl_ls A.tl_wl A.tl_kd, h1, h2, h3, ⟨_, h4, ?_⟩, g ev A.ev_lb A.ev_ls A.ev_wl A.ev_kd, fun x hx => ?_, ne, hn⟩
  · rw [del_all]
    exact kn.drop hi hr
  · rw [del_all] at hx
    have hx := (List.mem_filter.mp hx).1
    obtain ⟨dx2, e⟩ := od x hx
    have Ax := O x hx
    exact ⟨dx2, g e Ax.lb Ax.ls Ax.wl Ax.kd⟩
def spTakeOut (K : PySem.W.Frag) (CO CB : Addr) : Sp := fun vs H Q _ => ∃ (L : Lay) (m : M) (es : List Int) (r : R), vs = [.ref L.bk, .ref r.a] ∧ BkAt CO CB L H m es ∧ r ∈ m.all ∧
  ∀ H', BkAt CO CB L H' (delM r.o.id m) es → Fr [L.lb, L.ls, L.wl, L.kd] H H' → Q .non H'
theorem ln_Book_take_out {vs : List V} {H : Hp} {Q : VK} {E : XK} (h : spTakeOut K CO CB vs H Q E) : vs.length = 2 := by
  obtain ⟨L, m, es, r, rfl, _⟩ := h
  rfl
theorem fr2 {H : Hp} {a b : Addr} {o u : HO} : Fr [a, b] H (upd (upd H a o) b u) :=
  fr_upd.trans fr_upd (fun c hc => .inl (by rw [List.mem_singleton.mp hc]; simp)) (fun c hc => .inl (by rw [List.mem_singleton.mp hc]; simp))
theorem ok_Book_take_out {f : Addr} {fd : FuncData} (F : Fun K "take_out" "Book.take_out" s_Book_take_out f fd) (T : Txt K mg CO CB) {f_is_stop : Addr} {d_is_stop : FuncData} (G_is_stop : Gd P w K mg base 1 "is_stop" f_is_stop d_is_stop ["order"] (spIsStop CO)) : FnOk P w K mg base CX0 2 f fd ["self", "order"] (spTakeOut K CO CB) := by
  refine F.ok sc_Book_take_out (fun vs H Q E h => ln_Book_take_out h) (fun cdv A outer s H vs Q E hr h => ?_)
  have hu := hu_of hr
  refine ⟨_, (pss_cons (ps_expr (pe_dpop1 (pe_fld (pv 0) rfl) (pe_fld (pv 1) rfl) ⟨by rfl, by rfl, by rfl, by rfl⟩))
    (pss_one (ps_if (pt_val (pe_call G_is_stop.ok (hr.mono (by decide)) rfl G_is_stop.mg G_is_stop.kp G_is_stop.b .nil pass0 (pa_cons (pv 1) pa_nil)))
      (pss_one (ps_expr (pe_bm PySem.F.plainAttrs_list PySem.F.slot_list_remove PySem.F.type_list_remove (mt_removeR T.peO hr.units) (pe_fld (pv 0) rfl) (pa_cons (pv 1) pa_nil))))
      (pss_one (ps_expr (pe_bm PySem.F.plainAttrs_list PySem.F.slot_list_remove PySem.F.type_list_remove (mt_removeR T.peO hr.units) (pe_ix ix_tup (pe_fld (pv 0) rfl) (pe_fld (pv 1) rfl) (fun _ _ => rfl)) (pa_cons (pv 1) pa_nil))))))), ?_⟩

  obtain ⟨L, m, es, r, rfl, B, hm, kk⟩ := h
  rw [show L2.start ["self", "order"] [V.ref L.bk, V.ref r.a] = [some (.ref L.bk), some (.ref r.a)] from rfl]
  have AP := B.ap
  obtain ⟨dx, hb⟩ := B.ob
  obtain ⟨dr, hr⟩ := B.od r hm
  have Ar := B.ao ⟨dr, hr⟩
  obtain ⟨kvs, hd, kn⟩ := B.kd
  have hv : valV kvs (Sum.inl r.w.n : Key) = some (.ref r.a) := kn.on r hm
  have hI : IsD H L.kd := .inl ⟨kvs, .inl hd⟩
  have hb2 : ∀ o, upd H L.kd o L.bk = some (.ins CB dx (bF L m.last m.auc)) := fun o => (upd_ne AP.bk_kd).trans hb
  have hr2 : ∀ o, upd H L.kd o r.a = some (.ins CO dr (oF r.w)) := fun o => (upd_ne Ar.kd).trans hr
  have tyA : ∀ l xs, H l = some (.lst xs) → l ≠ L.kd → ∀ o, tyV K "list" (.ref l) (upd H L.kd o) := fun l xs h1 h2 o => tyL ((upd_ne h2).trans h1)
  have ty1 := tyA _ _ B.wl AP.wl_kd
  have tys := tyA _ _ (B.line r.o.buy) (by cases r.o.buy; exact AP.ls_kd; exact AP.lb_kd)
  obtain ⟨na1, na2, na3, _⟩ := addr_parts B.ok
  obtain ⟨ni1, ni2, ni3, x1, x2, x3⟩ := nodup_parts B.ok
  have ins1 : ∀ l : List R, (∀ q ∈ l, q ∈ m.all) → ∀ a ∈ l.map (·.a), ∃ dx fs, (upd H L.kd (.dK (dropK kvs (Sum.inl (r.o.id : Int) : Key)))) a = some (.ins CO dx fs) := fun l hl a ha => by
    obtain ⟨q, hq, rfl⟩ := List.mem_map.mp ha
    obtain ⟨dq, e⟩ := B.od q (hl q hq)
    exact ⟨dq, _, (upd_ne (B.ao ⟨dq, e⟩).kd).trans e⟩
  simp only [cxOf, Cx.nox, tSeq, tNext, tRet, tRetN, tDrop, tIfS, tVar, tC, tOp, tUn, tTest, tB, tAnd, tOr, tNot, tAndV, tOrV, tNotV, tIf, tFld, sFld, sFldAug, tAsg, gName, tAug, tCons, tNil, tCB, tCall, tMeth, tChain, sDPut, tDGet, tDIn, tDNotIn, tDGet1, tDPop1, tBM, tBM0, tLst, tTup, tDNewK, rI0, rI, CDiv, rU, L2.rAdd, L2.rSub, ipI, List.getElem?_cons_zero, List.getElem?_cons_succ, List.set_cons_zero, List.set_cons_succ, Option.some.injEq, exists_eq_left', exists_eq_left, V.ref.injEq, V.int.injEq, V.bl.injEq, HO.ins.injEq, HO.lst.injEq, HO.dK.injEq, HO.tup.injEq, and_assoc, true_and, and_true, exists_and_left, List.cons.injEq, List.append_nil, List.cons_append, List.nil_append, x_eq, x_ne, oF_inj, if_true, if_false, Bool.false_eq_true, ite_true, ite_false, eq_self_iff_true, T.clO, T.nO_number, T.nO_who, T.nO_side, T.nO_kind, T.nO_price, T.nO_amount, T.nO_trigger, oF_number, oF_who, oF_side, oF_kind, oF_price, oF_amount, oF_trigger, oF_put_number, oF_put_who, oF_put_side, oF_put_kind, oF_put_price, oF_put_amount, oF_put_trigger, T.clB, T.nB_lines, T.nB_waiting, T.nB_known, T.nB_latest, T.nB_in_auction, T.nB_events, bF_lines, bF_waiting, bF_known, bF_latest, bF_in_auction, bF_events, bF_put_latest, bF_put_in_auction, bF_put_events, hb, hr, hI, hd, kV_int, hv, hb2, hr2, spIsStop]
  by_cases hw : r ∈ m.waits
  · have hk := B.ok.w r hw
    have es : stopK r.w.k = true := by
      unfold stopK
      show (decide ((r.k : Int) = 5) || decide ((r.k : Int) = 6)) = true
      simp
      omega
    rw [es]
    refine iteT ?_
    simp only [cxOf, Cx.nox, tSeq, tNext, tRet, tRetN, tDrop, tIfS, tVar, tC, tOp, tUn, tTest, tB, tAnd, tOr, tNot, tAndV, tOrV, tNotV, tIf, tFld, sFld, sFldAug, tAsg, gName, tAug, tCons, tNil, tCB, tCall, tMeth, tChain, sDPut, tDGet, tDIn, tDNotIn, tDGet1, tDPop1, tBM, tBM0, tLst, tTup, tDNewK, rI0, rI, CDiv, rU, L2.rAdd, L2.rSub, ipI, List.getElem?_cons_zero, List.getElem?_cons_succ, List.set_cons_zero, List.set_cons_succ, Option.some.injEq, exists_eq_left', exists_eq_left, V.ref.injEq, V.int.injEq, V.bl.injEq, HO.ins.injEq, HO.lst.injEq, HO.dK.injEq, HO.tup.injEq, and_assoc, true_and, and_true, exists_and_left, List.cons.injEq, List.append_nil, List.cons_append, List.nil_append, x_eq, x_ne, oF_inj, if_true, if_false, Bool.false_eq_true, ite_true, ite_false, eq_self_iff_true, T.clO, T.nO_number, T.nO_who, T.nO_side, T.nO_kind, T.nO_price, T.nO_amount, T.nO_trigger, oF_number, oF_who, oF_side, oF_kind, oF_price, oF_amount, oF_trigger, oF_put_number, oF_put_who, oF_put_side, oF_put_kind, oF_put_price, oF_put_amount, oF_put_trigger, T.clB, T.nB_lines, T.nB_waiting, T.nB_known, T.nB_latest, T.nB_in_auction, T.nB_events, bF_lines, bF_waiting, bF_known, bF_latest, bF_in_auction, bF_events, bF_put_latest, bF_put_in_auction, bF_put_events, ty1]
    obtain ⟨j, j1, j2, j3⟩ := erase_one na3 ni3 hw
    refine ⟨L.wl, m.waits.map (·.a), r.a, j, rfl, rfl, (upd_ne AP.wl_kd).trans (by rw [← map_v]; exact B.wl), j1, j2, ins1 _ fun q hq => mem_all.mpr (.inr (.inr hq)), ?_⟩
    rw [j3, ← map_v]
    refine kk _ (B.deleted hm ?_ ?_ ?_ hd ?_ ?_) ?_
    · show _ = some (HO.lst ((m.buys.filter _).map R.v))
      rw [upd_ne AP.lb_wl, upd_ne AP.lb_kd, filter_ne fun q hq => x2 q hq r hw]
      exact B.lb
    · show _ = some (HO.lst ((m.sells.filter _).map R.v))
      rw [upd_ne AP.ls_wl, upd_ne AP.ls_kd, filter_ne fun q hq => x3 q hq r hw]
      exact B.ls
    · exact upd_same
    · rw [upd_ne AP.kd_wl]
      exact upd_same
    all_goals exact fr2.mono fun b hb => .inl (by
      simp only [List.mem_cons, List.not_mem_nil, or_false] at hb ⊢
      rcases hb with h | h
      · exact .inr (.inr (.inr h))
      · exact .inr (.inr (.inl h)))
  · have hs : r ∈ m.side r.o.buy := by
      rcases mem_all.mp hm with h | h | h
      · have := (B.ok.b r h).1
        rw [this]
        exact h
      · have := (B.ok.s r h).1
        rw [this]
        exact h
      · exact absurd h hw
    have hk := (B.ok.side r.o.buy r hs).2
    have es : stopK r.w.k = false := by
      unfold stopK
      show (decide ((r.k : Int) = 5) || decide ((r.k : Int) = 6)) = false
      simp
      omega
    rw [es]
    refine iteF ?_
    refine ix_t ((upd_ne AP.tl_kd).trans B.tl) (side_ix L r.o.buy) ?_
    simp only [cxOf, Cx.nox, tSeq, tNext, tRet, tRetN, tDrop, tIfS, tVar, tC, tOp, tUn, tTest, tB, tAnd, tOr, tNot, tAndV, tOrV, tNotV, tIf, tFld, sFld, sFldAug, tAsg, gName, tAug, tCons, tNil, tCB, tCall, tMeth, tChain, sDPut, tDGet, tDIn, tDNotIn, tDGet1, tDPop1, tBM, tBM0, tLst, tTup, tDNewK, rI0, rI, CDiv, rU, L2.rAdd, L2.rSub, ipI, List.getElem?_cons_zero, List.getElem?_cons_succ, List.set_cons_zero, List.set_cons_succ, Option.some.injEq, exists_eq_left', exists_eq_left, V.ref.injEq, V.int.injEq, V.bl.injEq, HO.ins.injEq, HO.lst.injEq, HO.dK.injEq, HO.tup.injEq, and_assoc, true_and, and_true, exists_and_left, List.cons.injEq, List.append_nil, List.cons_append, List.nil_append, x_eq, x_ne, oF_inj, if_true, if_false, Bool.false_eq_true, ite_true, ite_false, eq_self_iff_true, T.clO, T.nO_number, T.nO_who, T.nO_side, T.nO_kind, T.nO_price, T.nO_amount, T.nO_trigger, oF_number, oF_who, oF_side, oF_kind, oF_price, oF_amount, oF_trigger, oF_put_number, oF_put_who, oF_put_side, oF_put_kind, oF_put_price, oF_put_amount, oF_put_trigger, T.clB, T.nB_lines, T.nB_waiting, T.nB_known, T.nB_latest, T.nB_in_auction, T.nB_events, bF_lines, bF_waiting, bF_known, bF_latest, bF_in_auction, bF_events, bF_put_latest, bF_put_in_auction, bF_put_events, tys]
    have nas : ((m.side r.o.buy).map (·.a)).Nodup := by
      cases r.o.buy
      · exact na2
      · exact na1
    have nis : ((m.side r.o.buy).map fun r => r.o.id).Nodup := by
      cases r.o.buy
      · exact ni2
      · exact ni1
    obtain ⟨j, j1, j2, j3⟩ := erase_one nas nis hs
    have nsk : L.side r.o.buy ≠ L.kd := by
      cases r.o.buy
      · exact AP.ls_kd
      · exact AP.lb_kd
    refine ⟨L.side r.o.buy, (m.side r.o.buy).map (·.a), r.a, j, rfl, rfl, (upd_ne nsk).trans (by rw [← map_v]; exact B.line _), j1, j2, ins1 _ fun q hq => side_all hq, ?_⟩
    rw [j3, ← map_v]
    have fin : Fr [L.lb, L.ls, L.wl, L.kd] H (upd (upd H L.kd (.dK (dropK kvs (Sum.inl (r.o.id : Int) : Key)))) (L.side r.o.buy) (.lst (((m.side r.o.buy).filter fun x => x.o.id != r.o.id).map R.v))) := fr2.mono fun b hb => .inl (by
      simp only [List.mem_cons, List.not_mem_nil, or_false] at hb ⊢
      rcases hb with h | h
      · exact .inr (.inr (.inr h))
      · rw [h]
        unfold Lay.side
        split
        · exact .inl rfl
        · exact .inr (.inl rfl))
    refine kk _ (B.deleted hm ?_ ?_ ?_ hd ?_ fin) fin
    · show _ = some (HO.lst ((m.buys.filter _).map R.v))
      cases hbb : r.o.buy with
      | true => exact upd_same
      | false =>
        rw [hbb] at hs
        rw [show L.side false = L.ls from rfl, upd_ne AP.lb_ls, upd_ne AP.lb_kd, filter_ne fun q hq => x1 q hq r hs]
        exact B.lb
    · show _ = some (HO.lst ((m.sells.filter _).map R.v))
      cases hbb : r.o.buy with
      | false => exact upd_same
      | true =>
        rw [hbb] at hs
        rw [show L.side true = L.lb from rfl, upd_ne AP.ls_lb, upd_ne AP.ls_kd, filter_ne fun q hq => Ne.symm (x1 r hs q hq)]
        exact B.ls
    · show _ = some (HO.lst ((m.waits.filter _).map R.v))
      have nsw : L.wl ≠ L.side r.o.buy := by
        cases r.o.buy
        · exact AP.wl_ls
        · exact AP.wl_lb
      rw [upd_ne nsw, upd_ne AP.wl_kd]
      have : m.waits.filter (fun x => x.o.id != r.o.id) = m.waits := by
        cases hbb : r.o.buy with
        | true =>
          rw [hbb] at hs
          exact filter_ne fun q hq => Ne.symm (x2 r hs q hq)
        | false =>
          rw [hbb] at hs
          exact filter_ne fun q hq => Ne.symm (x3 r hs q hq)
      rw [this]
      exact B.wl
    · rw [upd_ne nsk.symm]
      exact upd_same
end
end SB
namespace SB
open PySem PySem.Spec PyProof.Rows L2
section
variable {P : Program} {w : World} {K : PySem.W.Frag} {mg : Str → Option Value} {base : Heap} {CO CB : Addr}
/-! ### the other line; what is offered; an exchange -/
def emptyM (r : R) (m : M) : M := if r.o.amount = 0 then delM r.o.id m else m
def spTakeOutIfEmpty (K : PySem.W.Frag) (CO CB : Addr) : Sp := fun vs H Q _ => ∃ (L : Lay) (m : M) (es : List Int) (r : R), vs = [.ref L.bk, .ref r.a] ∧ BkAt CO CB L H m es ∧ r ∈ m.all ∧
  ∀ H', BkAt CO CB L H' (emptyM r m) es → Fr [L.lb, L.ls, L.wl, L.kd] H H' → Q .non H'
theorem ln_Book_take_out_if_empty {vs : List V} {H : Hp} {Q : VK} {E : XK} (h : spTakeOutIfEmpty K CO CB vs H Q E) : vs.length = 2 := by
  obtain ⟨L, m, es, r, rfl, _⟩ := h
  rfl
theorem ok_Book_take_out_if_empty {f : Addr} {fd : FuncData} (F : Fun K "take_out_if_empty" "Book.take_out_if_empty" s_Book_take_out_if_empty f fd) (T : Txt K mg CO CB) {f_Book_take_out : Addr} {d_Book_take_out : FuncData} (G_take_out : Gm P w K mg base 2 CB "take_out" f_Book_take_out d_Book_take_out ["self", "order"] (spTakeOut K CO CB)) : FnOk P w K mg base CX0 3 f fd ["self", "order"] (spTakeOutIfEmpty K CO CB) := by
  refine F.ok sc_Book_take_out_if_empty (fun vs H Q E h => ln_Book_take_out_if_empty h) (fun cdv A outer s H vs Q E hr h => ?_)
  have hu := hu_of hr
  refine ⟨_, (pss_one (ps_if (pt_cmpR op_eq (pe_fld (pv 1) rfl) pe_int (nomark _))
      (pss_one (ps_expr (pe_meth (pv 0) T.clB G_take_out.m G_take_out.ok (hr.mono (by decide)) G_take_out.b .nil pass0 (pa_cons (pv 1) pa_nil))))
      pss_nil)), ?_⟩

  obtain ⟨L, m, es, r, rfl, B, hm, kk⟩ := h
  rw [show L2.start ["self", "order"] [V.ref L.bk, V.ref r.a] = [some (.ref L.bk), some (.ref r.a)] from rfl]
  obtain ⟨dx, hb⟩ := B.ob
  obtain ⟨dr, hr⟩ := B.od r hm
  simp only [cxOf, Cx.nox, tSeq, tNext, tRet, tRetN, tDrop, tIfS, tVar, tC, tOp, tUn, tTest, tB, tAnd, tOr, tNot, tAndV, tOrV, tNotV, tIf, tFld, sFld, sFldAug, tAsg, gName, tAug, tCons, tNil, tCB, tCall, tMeth, tChain, sDPut, tDGet, tDIn, tDNotIn, tDGet1, tDPop1, tBM, tBM0, tLst, tTup, tDNewK, rI0, rI, CDiv, rU, L2.rAdd, L2.rSub, ipI, List.getElem?_cons_zero, List.getElem?_cons_succ, List.set_cons_zero, List.set_cons_succ, Option.some.injEq, exists_eq_left', exists_eq_left, V.ref.injEq, V.int.injEq, V.bl.injEq, HO.ins.injEq, HO.lst.injEq, HO.dK.injEq, HO.tup.injEq, and_assoc, true_and, and_true, exists_and_left, List.cons.injEq, List.append_nil, List.cons_append, List.nil_append, x_eq, x_ne, oF_inj, if_true, if_false, Bool.false_eq_true, ite_true, ite_false, eq_self_iff_true, T.clO, T.nO_number, T.nO_who, T.nO_side, T.nO_kind, T.nO_price, T.nO_amount, T.nO_trigger, oF_number, oF_who, oF_side, oF_kind, oF_price, oF_amount, oF_trigger, oF_put_number, oF_put_who, oF_put_side, oF_put_kind, oF_put_price, oF_put_amount, oF_put_trigger, T.clB, T.nB_lines, T.nB_waiting, T.nB_known, T.nB_latest, T.nB_in_auction, T.nB_events, bF_lines, bF_waiting, bF_known, bF_latest, bF_in_auction, bF_events, bF_put_latest, bF_put_in_auction, bF_put_events, hb, hr, bF_no_take_out]
  have e : r.w.m = (r.o.amount : Int) := rfl
  rw [e]
  unfold emptyM at kk
  by_cases c : r.o.amount = 0
  · rw [if_pos c] at kk
    rw [decide_eq_true (by omega)]
    refine iteT ?_
    exact ⟨L, m, es, r, rfl, B, hm, kk⟩
  · rw [if_neg c] at kk
    rw [decide_eq_false (by omega)]
    refine iteF ?_
    exact kk H B (Fr.refl _ H)
def spOtherLine (K : PySem.W.Frag) (CO CB : Addr) : Sp := fun vs H Q _ => ∃ (L : Lay) (m : M) (es : List Int) (r : R), vs = [.ref L.bk, .ref r.a] ∧ BkAt CO CB L H m es ∧ OAt CO H r.a r.w ∧ Q (.ref (L.side (!r.o.buy))) H
theorem ln_Book_other_line {vs : List V} {H : Hp} {Q : VK} {E : XK} (h : spOtherLine K CO CB vs H Q E) : vs.length = 2 := by
  obtain ⟨L, m, es, r, rfl, _⟩ := h
  rfl
theorem ok_Book_other_line {f : Addr} {fd : FuncData} (F : Fun K "other_line" "Book.other_line" s_Book_other_line f fd) (T : Txt K mg CO CB)  : FnOk P w K mg base CX0 1 f fd ["self", "order"] (spOtherLine K CO CB) := by
  refine F.ok sc_Book_other_line (fun vs H Q E h => ln_Book_other_line h) (fun cdv A outer s H vs Q E hr h => ?_)
  have hu := hu_of hr
  refine ⟨_, (pss_one (ps_ret (pe_ifExp (pt_cmpR op_eq (pe_fld (pv 1) rfl) (pg_int rfl T.c_BUYS) (nomark _)) (pe_ix ix_tup (pe_fld (pv 0) rfl) (pg_int rfl T.c_SELLS) (fun _ _ => rfl)) (pe_ix ix_tup (pe_fld (pv 0) rfl) (pg_int rfl T.c_BUYS) (fun _ _ => rfl))))), ?_⟩

  obtain ⟨L, m, es, r, rfl, B, ⟨dr, hr⟩, kk⟩ := h
  rw [show L2.start ["self", "order"] [V.ref L.bk, V.ref r.a] = [some (.ref L.bk), some (.ref r.a)] from rfl]
  obtain ⟨dx, hb⟩ := B.ob
  simp only [cxOf, Cx.nox, tSeq, tNext, tRet, tRetN, tDrop, tIfS, tVar, tC, tOp, tUn, tTest, tB, tAnd, tOr, tNot, tAndV, tOrV, tNotV, tIf, tFld, sFld, sFldAug, tAsg, gName, tAug, tCons, tNil, tCB, tCall, tMeth, tChain, sDPut, tDGet, tDIn, tDNotIn, tDGet1, tDPop1, tBM, tBM0, tLst, tTup, tDNewK, rI0, rI, CDiv, rU, L2.rAdd, L2.rSub, ipI, List.getElem?_cons_zero, List.getElem?_cons_succ, List.set_cons_zero, List.set_cons_succ, Option.some.injEq, exists_eq_left', exists_eq_left, V.ref.injEq, V.int.injEq, V.bl.injEq, HO.ins.injEq, HO.lst.injEq, HO.dK.injEq, HO.tup.injEq, and_assoc, true_and, and_true, exists_and_left, List.cons.injEq, List.append_nil, List.cons_append, List.nil_append, x_eq, x_ne, oF_inj, if_true, if_false, Bool.false_eq_true, ite_true, ite_false, eq_self_iff_true, T.clO, T.nO_number, T.nO_who, T.nO_side, T.nO_kind, T.nO_price, T.nO_amount, T.nO_trigger, oF_number, oF_who, oF_side, oF_kind, oF_price, oF_amount, oF_trigger, oF_put_number, oF_put_who, oF_put_side, oF_put_kind, oF_put_price, oF_put_amount, oF_put_trigger, T.clB, T.nB_lines, T.nB_waiting, T.nB_known, T.nB_latest, T.nB_in_auction, T.nB_events, bF_lines, bF_waiting, bF_known, bF_latest, bF_in_auction, bF_events, bF_put_latest, bF_put_in_auction, bF_put_events, hb, hr]
  have e : r.w.s = if r.o.buy = true then 0 else 1 := rfl
  rw [e]
  cases hbb : r.o.buy with
  | true =>
    rw [hbb] at kk
    refine iteT ?_
    exact ix_t B.tl rfl kk
  | false =>
    rw [hbb] at kk
    refine iteF ?_
    exact ix_t B.tl rfl kk
theorem at0 {α : Type} {x : α} {l : List α} : atI (x :: l) 0 = some x := atI_nat (j := 0) rfl
theorem acc_eq {r : R} (h : r.k = r.o.kind) (p : Nat) : accW r.w (p : Int) = Sd17.takes r.o p := by
  unfold accW Sd17.takes
  show (if (r.k : Int) = 1 then true else if (if r.o.buy = true then (0 : Int) else 1) = 0 then decide ((p : Int) ≤ (r.o.price : Int)) else decide ((r.o.price : Int) ≤ (p : Int))) = _
  by_cases c : r.o.kind = 1
  · rw [if_pos (by omega)]
    simp [c]
  · rw [if_neg (by omega)]
    cases r.o.buy
    · simp [c]
    · simp [c]
def spCanTrade (K : PySem.W.Frag) (CO CB : Addr) : Sp := fun vs H Q _ => ∃ (L : Lay) (m : M) (es : List Int) (r : R), vs = [.ref L.bk, .ref r.a] ∧ BkAt CO CB L H m es ∧ OAt CO H r.a r.w ∧ r.k = r.o.kind ∧ Q (.bl (headTakes r (m.side (!r.o.buy)))) H
theorem ln_Book_can_trade {vs : List V} {H : Hp} {Q : VK} {E : XK} (h : spCanTrade K CO CB vs H Q E) : vs.length = 2 := by
  obtain ⟨L, m, es, r, rfl, _⟩ := h
  rfl
theorem ok_Book_can_trade {f : Addr} {fd : FuncData} (F : Fun K "can_trade" "Book.can_trade" s_Book_can_trade f fd) (T : Txt K mg CO CB) {f_Book_other_line : Addr} {d_Book_other_line : FuncData} (G_other_line : Gm P w K mg base 1 CB "other_line" f_Book_other_line d_Book_other_line ["self", "order"] (spOtherLine K CO CB)) {f_accepts : Addr} {d_accepts : FuncData} (G_accepts : Gd P w K mg base 1 "accepts" f_accepts d_accepts ["order", "price"] (spAccepts CO)) : FnOk P w K mg base CX0 2 f fd ["self", "order"] (spCanTrade K CO CB) := by
  refine F.ok sc_Book_can_trade (fun vs H Q E h => ln_Book_can_trade h) (fun cdv A outer s H vs Q E hr h => ?_)
  have hu := hu_of hr
  refine ⟨_, (pss_cons (ps_set (i := 2) sc_Book_can_trade.nd rfl (Or.inl rfl) (pe_meth (pv 0) T.clB G_other_line.m G_other_line.ok (hr.mono (by decide)) G_other_line.b .nil pass0 (pa_cons (pv 1) pa_nil)))
    (pss_one (ps_ret (pe_and (pe_cmpR op_gt (pe_callB call_len_seq (by rfl) T.b_len PySem.boot_len (pa_cons (pv 2) pa_nil)) pe_int (nomark _)) (pe_one (pe_call G_accepts.ok (hr.mono (by decide)) rfl G_accepts.mg G_accepts.kp G_accepts.b .nil pass0 (pa_cons (pv 1) (pa_cons (pe_fld (pe_ix ix_list (pv 2) pe_int (fun _ _ => rfl)) rfl) pa_nil)))))))), ?_⟩

  obtain ⟨L, m, es, r, rfl, B, ⟨dr, hr⟩, hk, kk⟩ := h
  rw [show L2.start ["self", "order", "line"] [V.ref L.bk, V.ref r.a] = [some (.ref L.bk), some (.ref r.a), none] from rfl]
  obtain ⟨dx, hb⟩ := B.ob
  have hl := B.line (!r.o.buy)
  simp only [cxOf, Cx.nox, tSeq, tNext, tRet, tRetN, tDrop, tIfS, tVar, tC, tOp, tUn, tTest, tB, tAnd, tOr, tNot, tAndV, tOrV, tNotV, tIf, tFld, sFld, sFldAug, tAsg, gName, tAug, tCons, tNil, tCB, tCall, tMeth, tChain, sDPut, tDGet, tDIn, tDNotIn, tDGet1, tDPop1, tBM, tBM0, tLst, tTup, tDNewK, rI0, rI, CDiv, rU, L2.rAdd, L2.rSub, ipI, List.getElem?_cons_zero, List.getElem?_cons_succ, List.set_cons_zero, List.set_cons_succ, Option.some.injEq, exists_eq_left', exists_eq_left, V.ref.injEq, V.int.injEq, V.bl.injEq, HO.ins.injEq, HO.lst.injEq, HO.dK.injEq, HO.tup.injEq, and_assoc, true_and, and_true, exists_and_left, List.cons.injEq, List.append_nil, List.cons_append, List.nil_append, x_eq, x_ne, oF_inj, if_true, if_false, Bool.false_eq_true, ite_true, ite_false, eq_self_iff_true, T.clO, T.nO_number, T.nO_who, T.nO_side, T.nO_kind, T.nO_price, T.nO_amount, T.nO_trigger, oF_number, oF_who, oF_side, oF_kind, oF_price, oF_amount, oF_trigger, oF_put_number, oF_put_who, oF_put_side, oF_put_kind, oF_put_price, oF_put_amount, oF_put_trigger, T.clB, T.nB_lines, T.nB_waiting, T.nB_known, T.nB_latest, T.nB_in_auction, T.nB_events, bF_lines, bF_waiting, bF_known, bF_latest, bF_in_auction, bF_events, bF_put_latest, bF_put_in_auction, bF_put_events, hb, hr, bF_no_other_line]
  refine ⟨L, m, es, r, rfl, B, ⟨dr, hr⟩, ?_⟩
  simp only [cxOf, Cx.nox, tSeq, tNext, tRet, tRetN, tDrop, tIfS, tVar, tC, tOp, tUn, tTest, tB, tAnd, tOr, tNot, tAndV, tOrV, tNotV, tIf, tFld, sFld, sFldAug, tAsg, gName, tAug, tCons, tNil, tCB, tCall, tMeth, tChain, sDPut, tDGet, tDIn, tDNotIn, tDGet1, tDPop1, tBM, tBM0, tLst, tTup, tDNewK, rI0, rI, CDiv, rU, L2.rAdd, L2.rSub, ipI, List.getElem?_cons_zero, List.getElem?_cons_succ, List.set_cons_zero, List.set_cons_succ, Option.some.injEq, exists_eq_left', exists_eq_left, V.ref.injEq, V.int.injEq, V.bl.injEq, HO.ins.injEq, HO.lst.injEq, HO.dK.injEq, HO.tup.injEq, and_assoc, true_and, and_true, exists_and_left, List.cons.injEq, List.append_nil, List.cons_append, List.nil_append, x_eq, x_ne, oF_inj, if_true, if_false, Bool.false_eq_true, ite_true, ite_false, eq_self_iff_true, T.clO, T.nO_number, T.nO_who, T.nO_side, T.nO_kind, T.nO_price, T.nO_amount, T.nO_trigger, oF_number, oF_who, oF_side, oF_kind, oF_price, oF_amount, oF_trigger, oF_put_number, oF_put_who, oF_put_side, oF_put_kind, oF_put_price, oF_put_amount, oF_put_trigger, T.clB, T.nB_lines, T.nB_waiting, T.nB_known, T.nB_latest, T.nB_in_auction, T.nB_events, bF_lines, bF_waiting, bF_known, bF_latest, bF_in_auction, bF_events, bF_put_latest, bF_put_in_auction, bF_put_events, hr]
  refine ⟨(m.side (!r.o.buy)).map R.v, .inl (SqL.of hl), ?_⟩
  rw [List.length_map]
  have od := fun x hx => B.od x (side_all (buy := !r.o.buy) hx)
  generalize m.side (!r.o.buy) = line at hl kk od
  cases line with
  | nil => exact iteF kk
  | cons x l =>
    rw [decide_eq_true (show (0 : Int) < (((x :: l).length : Nat) : Int) by rw [List.length_cons]; omega)]
    refine iteT (ix_l hl at0 ?_)
    obtain ⟨dx2, hx⟩ := od x (List.mem_cons_self ..)
    simp only [cxOf, Cx.nox, tSeq, tNext, tRet, tRetN, tDrop, tIfS, tVar, tC, tOp, tUn, tTest, tB, tAnd, tOr, tNot, tAndV, tOrV, tNotV, tIf, tFld, sFld, sFldAug, tAsg, gName, tAug, tCons, tNil, tCB, tCall, tMeth, tChain, sDPut, tDGet, tDIn, tDNotIn, tDGet1, tDPop1, tBM, tBM0, tLst, tTup, tDNewK, rI0, rI, CDiv, rU, L2.rAdd, L2.rSub, ipI, List.getElem?_cons_zero, List.getElem?_cons_succ, List.set_cons_zero, List.set_cons_succ, Option.some.injEq, exists_eq_left', exists_eq_left, V.ref.injEq, V.int.injEq, V.bl.injEq, HO.ins.injEq, HO.lst.injEq, HO.dK.injEq, HO.tup.injEq, and_assoc, true_and, and_true, exists_and_left, List.cons.injEq, List.append_nil, List.cons_append, List.nil_append, x_eq, x_ne, oF_inj, if_true, if_false, Bool.false_eq_true, ite_true, ite_false, eq_self_iff_true, T.clO, T.nO_number, T.nO_who, T.nO_side, T.nO_kind, T.nO_price, T.nO_amount, T.nO_trigger, oF_number, oF_who, oF_side, oF_kind, oF_price, oF_amount, oF_trigger, oF_put_number, oF_put_who, oF_put_side, oF_put_kind, oF_put_price, oF_put_amount, oF_put_trigger, T.clB, T.nB_lines, T.nB_waiting, T.nB_known, T.nB_latest, T.nB_in_auction, T.nB_events, bF_lines, bF_waiting, bF_known, bF_latest, bF_in_auction, bF_events, bF_put_latest, bF_put_in_auction, bF_put_events, hx, hr, R.v, spAccepts]
    have e := acc_eq hk x.o.price
    have e2 : accW r.w x.w.p = Sd17.takes r.o x.o.price := e
    rw [e2]
    exact kk
theorem x_beq {a b : Nat} : (!decide ((a : Int) = (b : Int))) = (a != b) := by
  rw [Bool.eq_iff_iff]
  simp
  omega
/-- a comprehension over a list, whose test and element are known -/
theorem comp_list {α : Type} {rs : List α} {φ : α → V} {l : Addr} {j : Nat} {tt : TT} {te : TE} {vs : List Nat} {σ : L2.St} {H : Hp} {Qd : Addr → Hp → Prop} (f : α → Bool) (g : α → V) (hl : H l = some (.lst (rs.map φ))) (hz : rs.length ≤ 16000000)
    (hw : ∀ x, wipe ((wipe σ vs).set j (some x)) vs = wipe σ vs) (ht : ∀ x ∈ rs, ∀ H', Fr [] H H' → ∀ R : Bool → Hp → Prop, R (f x) H' → tt ((wipe σ vs).set j (some (φ x))) H' R)
    (he : ∀ x ∈ rs, f x = true → ∀ H', Fr [] H H' → ∀ R : VK, R (g x) H' → te ((wipe σ vs).set j (some (φ x))) H' R) (q : ∀ D H', H D = none → Fr [] H H' → H' D = some (.lst ((rs.filter f).map g)) → Qd D H') :
    ∀ D, H D = none → ∃ W : Nat → Nat → Hp → Prop, (∃ m, W 0 m (upd H D (.lst []))) ∧ ∀ i m H, W i m H →
      ((Itl K l).stop i H ∧ Qd D H) ∨ ((Itl K l).go i H ∧ ∃ Nx : Hp → Prop, (∀ H', Nx H' → ∃ m', m' < m ∧ W (i + 1) m' H') ∧ ∀ x H', (Itl K l).yld i H x H' → gName j x (wipe σ vs) H' fun σ2 H2 => wipe σ2 vs = wipe σ vs ∧ tt σ2 H2 fun b H3 =>
        if b = true then te σ2 H3 fun y H4 => ∃ acc, H4 D = some (.lst acc) ∧ acc.length < sizeLine ∧ Nx (upd H4 D (.lst (acc ++ [y]))) else Nx H3) := fun D hD => by
  refine lc_list (xs := rs.map φ) (fun i H' => Fr [] H H' ∧ H' D = some (.lst (((rs.take i).filter f).map g))) ⟨fr_new hD, upd_same⟩ (fun i H' _ p => SqL.of (fr_nil p.1 hl)) (fun i x H' hi p => ?_) fun H' p => ?_
  · obtain ⟨p1, p2⟩ := p
    obtain ⟨y, hy, rfl⟩ : ∃ y, rs[i]? = some y ∧ φ y = x := by
      rw [List.getElem?_map] at hi
      cases e : rs[i]? with
      | none =>
        rw [e] at hi
        cases hi
      | some y =>
        rw [e] at hi
        exact ⟨y, rfl, Option.some.inj hi⟩
    have hil := (List.getElem?_eq_some_iff.mp hy).1
    have hm := List.mem_of_getElem? hy
    have et : rs.take (i + 1) = rs.take i ++ [y] := by
      rw [List.take_add_one, hy]
      rfl
    refine ⟨hw _, ht y hm H' p1 _ ?_⟩
    cases e : f y with
    | true =>
      refine iteT (he y hm e H' p1 _ ⟨_, p2, ?_, ?_, ?_⟩)
      · have h1 := List.length_filter_le f (rs.take i)
        rw [List.length_take] at h1
        rw [List.length_map]
        exact big (by omega)
      · exact p1.trans (fr_upd (a := D)) (fun b hb => nomatch hb) fun b hb => .inr (by rw [List.mem_singleton.mp hb]; exact hD)
      · rw [upd_same, et, List.filter_append, List.map_append]
        have : ([y].filter f).map g = [g y] := by simp [e]
        rw [this]
    | false =>
      refine iteF ⟨p1, ?_⟩
      rw [p2, et, List.filter_append, List.map_append]
      have : ([y].filter f).map g = [] := by simp [e]
      rw [this, List.append_nil]
  · obtain ⟨p1, p2⟩ := p
    rw [List.length_map, List.take_length] at p2
    exact q D H' hD p1 p2
def spOfferedByOthers (K : PySem.W.Frag) (CO CB : Addr) : Sp := fun vs H Q _ => ∃ (L : Lay) (m : M) (es : List Int) (r : R), vs = [.ref L.bk, .ref r.a] ∧ BkAt CO CB L H m es ∧ OAt CO H r.a r.w ∧ r.k = r.o.kind ∧ m.all.length ≤ 100000 ∧
  ∀ H', Fr [] H H' → Q (.int ((readyM r (m.side (!r.o.buy)) : Nat) : Int)) H'
theorem ln_Book_offered_by_others {vs : List V} {H : Hp} {Q : VK} {E : XK} (h : spOfferedByOthers K CO CB vs H Q E) : vs.length = 2 := by
  obtain ⟨L, m, es, r, rfl, _⟩ := h
  rfl
theorem sum_cast : ∀ l : List Nat, (l.map fun (n : Nat) => (n : Int)).sum = (l.sum : Nat)
  | [] => rfl
  | a :: l => by rw [List.map_cons, List.sum_cons, List.sum_cons, sum_cast l]; omega
theorem ok_Book_offered_by_others {f : Addr} {fd : FuncData} (F : Fun K "offered_by_others" "Book.offered_by_others" s_Book_offered_by_others f fd) (T : Txt K mg CO CB) {f_Book_other_line : Addr} {d_Book_other_line : FuncData} (G_other_line : Gm P w K mg base 1 CB "other_line" f_Book_other_line d_Book_other_line ["self", "order"] (spOtherLine K CO CB)) {f_accepts : Addr} {d_accepts : FuncData} (G_accepts : Gd P w K mg base 1 "accepts" f_accepts d_accepts ["order", "price"] (spAccepts CO)) : FnOk P w K mg base CX0 2 f fd ["self", "order"] (spOfferedByOthers K CO CB) := by
  refine F.ok sc_Book_offered_by_others (fun vs H Q E h => ln_Book_offered_by_others h) (fun cdv A outer s H vs Q E hr h => ?_)
  have hu := hu_of hr
  refine ⟨_, (pss_cons (ps_setLc (i := 2) (own := [("other", 3)]) (g := gName 3) (tt := (tTest (tOp rNe (tFld K (tVar 3) "who") (tFld K (tVar 1) "who")))) (te := (tVar 3)) rfl sc_Book_offered_by_others.nd rfl rfl (sw_true rfl rfl rfl (by decide +kernel)) (pi_list (pe_meth (pv 0) T.clB G_other_line.m G_other_line.ok (hr.mono (by decide)) G_other_line.b .nil pass0 (pa_cons (pv 1) pa_nil))) (blkOk_by (N := ["self", "order", "others", "other"]) (sc := defScope s_Book_offered_by_others) (by decide +kernel)) (by exact fun _ _ _ _ _ => pg_name (i := 3) sc_Book_offered_by_others.nd rfl (Or.inl rfl)) (by exact fun _ _ _ _ _ => (pts_one (pt_cmpR op_ne (pe_fld (pv 3) rfl) (pe_fld (pv 1) rfl) (nomark _)))) (by exact fun _ _ _ _ _ => (pv 3)))
    (pss_one (ps_ret (pe_callB (cr_sum rfl) (by rfl) T.b_sum (by decide +kernel) (pa_cons (pe_lc (own := [("other", 3)]) (g := gName 3) (tt := (tB (tCall _ [] E0 (tCons (tVar 1) (tCons (tFld K (tVar 3) "price") tNil))))) (te := (tFld K (tVar 3) "amount")) rfl sc_Book_offered_by_others.nd (pi_list (pv 2)) (blkOk_by (N := ["self", "order", "others", "other"]) (sc := defScope s_Book_offered_by_others) (by decide +kernel)) (by exact fun _ _ _ _ _ => pg_name (i := 3) sc_Book_offered_by_others.nd rfl (Or.inl rfl)) (by exact fun _ _ _ _ _ => (pts_one (pt_val (pe_call G_accepts.ok (hr.mono (by decide)) rfl G_accepts.mg G_accepts.kp G_accepts.b .nil pass0 (pa_cons (pv 1) (pa_cons (pe_fld (pv 3) rfl) pa_nil)))))) (by exact fun _ _ _ _ _ => (pe_fld (pv 3) rfl))) pa_nil))))), ?_⟩

  obtain ⟨L, m, es, r, rfl, B, ⟨dr, hr⟩, hk, hm, kk⟩ := h
  rw [show L2.start ["self", "order", "others", "other"] [V.ref L.bk, V.ref r.a] = [some (.ref L.bk), some (.ref r.a), none, none] from rfl]
  obtain ⟨dx, hb⟩ := B.ob
  have hl := B.line (!r.o.buy)
  have sl := side_len (m := m) (!r.o.buy)
  have od := fun x hx => B.od x (side_all (buy := !r.o.buy) hx)
  unfold readyM at kk
  generalize m.side (!r.o.buy) = line at hl kk od sl
  refine ⟨.ref L.bk, rfl, L.bk, dx, bF L m.last m.auc, rfl, hb, bF_no_other_line _ _ _, .ref r.a, rfl, L, m, es, r, rfl, B, ⟨dr, hr⟩, L.side (!r.o.buy), rfl, ⟨_, SqL.of hl⟩, comp_list (rs := line) (φ := R.v) (fun x => x.o.who != r.o.who) R.v hl (by omega) (fun _ => rfl) (fun x hx H' f R hR => ?_) (fun x hx _ H' f R hR => ?_) fun D H1 hD f1 e1 => ?_⟩
  · obtain ⟨dx2, e⟩ := od x hx
    have e := fr_nil f e
    have e2 := fr_nil f hr
    change tTest (tOp rNe (tFld K (tVar 3) "who") (tFld K (tVar 1) "who")) [some (.ref L.bk), some (.ref r.a), none, some (.ref x.a)] H' R
    simp only [cxOf, Cx.nox, tSeq, tNext, tRet, tRetN, tDrop, tIfS, tVar, tC, tOp, tUn, tTest, tB, tAnd, tOr, tNot, tAndV, tOrV, tNotV, tIf, tFld, sFld, sFldAug, tAsg, gName, tAug, tCons, tNil, tCB, tCall, tMeth, tChain, sDPut, tDGet, tDIn, tDNotIn, tDGet1, tDPop1, tBM, tBM0, tLst, tTup, tDNewK, rI0, rI, CDiv, rU, L2.rAdd, L2.rSub, ipI, List.getElem?_cons_zero, List.getElem?_cons_succ, List.set_cons_zero, List.set_cons_succ, Option.some.injEq, exists_eq_left', exists_eq_left, V.ref.injEq, V.int.injEq, V.bl.injEq, HO.ins.injEq, HO.lst.injEq, HO.dK.injEq, HO.tup.injEq, and_assoc, true_and, and_true, exists_and_left, List.cons.injEq, List.append_nil, List.cons_append, List.nil_append, x_eq, x_ne, oF_inj, if_true, if_false, Bool.false_eq_true, ite_true, ite_false, eq_self_iff_true, T.clO, T.nO_number, T.nO_who, T.nO_side, T.nO_kind, T.nO_price, T.nO_amount, T.nO_trigger, oF_number, oF_who, oF_side, oF_kind, oF_price, oF_amount, oF_trigger, oF_put_number, oF_put_who, oF_put_side, oF_put_kind, oF_put_price, oF_put_amount, oF_put_trigger, T.clB, T.nB_lines, T.nB_waiting, T.nB_known, T.nB_latest, T.nB_in_auction, T.nB_events, bF_lines, bF_waiting, bF_known, bF_latest, bF_in_auction, bF_events, bF_put_latest, bF_put_in_auction, bF_put_events, e, e2]
    rw [show (!decide (x.w.w = r.w.w)) = (x.o.who != r.o.who) from x_beq]
    exact hR
  · exact ⟨_, rfl, hR⟩
  · change tRet (tCB (rSum K) (tCons (tLc (iList K (tVar 2)) (gName 3) (tB (tCall (spAccepts CO) [] E0 (tCons (tVar 1) (tCons (tFld K (tVar 3) "price") tNil)))) (tFld K (tVar 3) "amount") [3]) tNil)) _ [some (.ref L.bk), some (.ref r.a), some (.ref D), none] H1
    have sl2 := List.length_filter_le (fun x : R => x.o.who != r.o.who) line
    have od2 : ∀ x ∈ line.filter (fun x => x.o.who != r.o.who), x ∈ line := fun x hx => (List.mem_filter.mp hx).1
    generalize line.filter (fun x => x.o.who != r.o.who) = line2 at e1 kk sl2 od2
    refine ⟨.ref D, rfl, D, rfl, ⟨_, SqL.of e1⟩, comp_list (rs := line2) (φ := R.v) (fun x => Sd17.takes r.o x.o.price) (fun x => .int (x.o.amount : Int)) e1 (by omega) (fun _ => rfl) (fun x hx H' f R hR => ?_) (fun x hx _ H' f R hR => ?_) fun D2 H2 hD2 f2 e2 => ?_⟩
    · obtain ⟨dx2, e⟩ := od x (od2 x hx)
      have e := fr_nil f (fr_nil f1 e)
      have e2 := fr_nil f (fr_nil f1 hr)
      change tB (tCall (spAccepts CO) [] E0 (tCons (tVar 1) (tCons (tFld K (tVar 3) "price") tNil))) [some (.ref L.bk), some (.ref r.a), some (.ref D), some (.ref x.a)] H' R
      simp only [cxOf, Cx.nox, tSeq, tNext, tRet, tRetN, tDrop, tIfS, tVar, tC, tOp, tUn, tTest, tB, tAnd, tOr, tNot, tAndV, tOrV, tNotV, tIf, tFld, sFld, sFldAug, tAsg, gName, tAug, tCons, tNil, tCB, tCall, tMeth, tChain, sDPut, tDGet, tDIn, tDNotIn, tDGet1, tDPop1, tBM, tBM0, tLst, tTup, tDNewK, rI0, rI, CDiv, rU, L2.rAdd, L2.rSub, ipI, List.getElem?_cons_zero, List.getElem?_cons_succ, List.set_cons_zero, List.set_cons_succ, Option.some.injEq, exists_eq_left', exists_eq_left, V.ref.injEq, V.int.injEq, V.bl.injEq, HO.ins.injEq, HO.lst.injEq, HO.dK.injEq, HO.tup.injEq, and_assoc, true_and, and_true, exists_and_left, List.cons.injEq, List.append_nil, List.cons_append, List.nil_append, x_eq, x_ne, oF_inj, if_true, if_false, Bool.false_eq_true, ite_true, ite_false, eq_self_iff_true, T.clO, T.nO_number, T.nO_who, T.nO_side, T.nO_kind, T.nO_price, T.nO_amount, T.nO_trigger, oF_number, oF_who, oF_side, oF_kind, oF_price, oF_amount, oF_trigger, oF_put_number, oF_put_who, oF_put_side, oF_put_kind, oF_put_price, oF_put_amount, oF_put_trigger, T.clB, T.nB_lines, T.nB_waiting, T.nB_known, T.nB_latest, T.nB_in_auction, T.nB_events, bF_lines, bF_waiting, bF_known, bF_latest, bF_in_auction, bF_events, bF_put_latest, bF_put_in_auction, bF_put_events, e, e2, spAccepts]
      rw [show accW r.w x.w.p = Sd17.takes r.o x.o.price from acc_eq hk x.o.price]
      exact hR
    · obtain ⟨dx2, e⟩ := od x (od2 x hx)
      have e := fr_nil f (fr_nil f1 e)
      change tFld K (tVar 3) "amount" [some (.ref L.bk), some (.ref r.a), some (.ref D), some (.ref x.a)] H' R
      simp only [cxOf, Cx.nox, tSeq, tNext, tRet, tRetN, tDrop, tIfS, tVar, tC, tOp, tUn, tTest, tB, tAnd, tOr, tNot, tAndV, tOrV, tNotV, tIf, tFld, sFld, sFldAug, tAsg, gName, tAug, tCons, tNil, tCB, tCall, tMeth, tChain, sDPut, tDGet, tDIn, tDNotIn, tDGet1, tDPop1, tBM, tBM0, tLst, tTup, tDNewK, rI0, rI, CDiv, rU, L2.rAdd, L2.rSub, ipI, List.getElem?_cons_zero, List.getElem?_cons_succ, List.set_cons_zero, List.set_cons_succ, Option.some.injEq, exists_eq_left', exists_eq_left, V.ref.injEq, V.int.injEq, V.bl.injEq, HO.ins.injEq, HO.lst.injEq, HO.dK.injEq, HO.tup.injEq, and_assoc, true_and, and_true, exists_and_left, List.cons.injEq, List.append_nil, List.cons_append, List.nil_append, x_eq, x_ne, oF_inj, if_true, if_false, Bool.false_eq_true, ite_true, ite_false, eq_self_iff_true, T.clO, T.nO_number, T.nO_who, T.nO_side, T.nO_kind, T.nO_price, T.nO_amount, T.nO_trigger, oF_number, oF_who, oF_side, oF_kind, oF_price, oF_amount, oF_trigger, oF_put_number, oF_put_who, oF_put_side, oF_put_kind, oF_put_price, oF_put_amount, oF_put_trigger, T.clB, T.nB_lines, T.nB_waiting, T.nB_known, T.nB_latest, T.nB_in_auction, T.nB_events, bF_lines, bF_waiting, bF_known, bF_latest, bF_in_auction, bF_events, bF_put_latest, bF_put_in_auction, bF_put_events, e]
      exact hR
    · refine ⟨D2, (line2.filter fun x => Sd17.takes r.o x.o.price).map fun x => (x.o.amount : Int), rfl, SqL.of (e2.trans (by rw [List.map_map]; rfl)), ?_⟩
      have e3 : ((line2.filter fun x => Sd17.takes r.o x.o.price).map fun x => (x.o.amount : Int)).sum = ((((line2.filter fun x => Sd17.takes r.o x.o.price).map fun x => x.o.amount).sum : Nat) : Int) := by
        rw [← sum_cast, List.map_map]
        rfl
      rw [e3]
      exact kk H2 (f1.trans f2 (fun b hb => nomatch hb) fun b hb => nomatch hb)
def spExchange (K : PySem.W.Frag) (CO CB : Addr) : Sp := fun vs H Q _ => ∃ (L : Lay) (m : M) (es : List Int) (a c : Addr) (x y : W) (p : Nat), vs = [.ref L.bk, .ref a, .ref c, .int (p : Int)] ∧ BkAt CO CB L H m es ∧ OAt CO H a x ∧ OAt CO H c y ∧ a ≠ c ∧ es.length ≤ 10000000 ∧
  ∀ H', (∃ dx, H' L.bk = some (.ins CB dx (bF L p m.auc))) → OAt CO H' a { x with m := x.m - (if y.m < x.m then y.m else x.m) } → OAt CO H' c { y with m := y.m - (if y.m < x.m then y.m else x.m) } →
    H' L.ev = some (.lst ((es ++ [1, x.n, y.n, (p : Int), if y.m < x.m then y.m else x.m, y.m - (if y.m < x.m then y.m else x.m)]).map V.int)) → Fr [a, c, L.bk, L.ev] H H' → Q .non H'
theorem ln_Book_exchange {vs : List V} {H : Hp} {Q : VK} {E : XK} (h : spExchange K CO CB vs H Q E) : vs.length = 4 := by
  obtain ⟨L, m, es, a, c, x, y, p, rfl, _⟩ := h
  rfl
theorem ok_Book_exchange {f : Addr} {fd : FuncData} (F : Fun K "exchange" "Book.exchange" s_Book_exchange f fd) (T : Txt K mg CO CB) {f_Book_tell : Addr} {d_Book_tell : FuncData} (G_tell : Gm P w K mg base 1 CB "tell" f_Book_tell d_Book_tell ["self", "event", "number", "other", "price", "amount", "left"] (spTell K CO CB)) : FnOk P w K mg base CX0 2 f fd ["self", "order", "other", "price"] (spExchange K CO CB) := by
  refine F.ok sc_Book_exchange (fun vs H Q E h => ln_Book_exchange h) (fun cdv A outer s H vs Q E hr h => ?_)
  have hu := hu_of hr
  refine ⟨_, (pss_cons (ps_set (i := 4) sc_Book_exchange.nd rfl (Or.inl rfl) (pe_callB (call_min2 rfl) (by rfl) T.b_min (by decide +kernel) (pa_cons (pe_fld (pv 1) rfl) (pa_cons (pe_fld (pv 2) rfl) pa_nil))))
    (pss_cons (ps_fldaug (pv 1) (pv 4) in_sub)
    (pss_cons (ps_fldaug (pv 2) (pv 4) in_sub)
    (pss_cons (ps_fld (pv 0) (pv 3) rfl)
    (pss_one (ps_expr (pe_meth (pv 0) T.clB G_tell.m G_tell.ok (hr.mono (by decide)) G_tell.b .nil pass0 (pa_cons (pg_int rfl T.c_TRADED) (pa_cons (pe_fld (pv 1) rfl) (pa_cons (pe_fld (pv 2) rfl) (pa_cons (pv 3) (pa_cons (pv 4) (pa_cons (pe_fld (pv 2) rfl) pa_nil))))))))))))), ?_⟩

  obtain ⟨L, m, es, a, c, x, y, p, rfl, B, ⟨da, ha⟩, ⟨dc, hc⟩, nac, hz, kk⟩ := h
  rw [show L2.start ["self", "order", "other", "price", "amount"] [V.ref L.bk, V.ref a, V.ref c, V.int (p : Int)] = [some (.ref L.bk), some (.ref a), some (.ref c), some (.int (p : Int)), none] from rfl]
  obtain ⟨dx, hb⟩ := B.ob
  have Aa := B.ao ⟨da, ha⟩
  have Ac := B.ao ⟨dc, hc⟩
  have AP := B.ap
  have h1 : ∀ o, upd H a o c = some (.ins CO dc (oF y)) := fun o => (upd_ne nac.symm).trans hc
  have h2 : ∀ o u, upd (upd H a o) c u L.bk = some (.ins CB dx (bF L m.last m.auc)) := fun o u => (upd_ne Ac.rbk).trans ((upd_ne Aa.rbk).trans hb)
  have h3 : ∀ o u v, upd (upd (upd H a o) c u) L.bk v a = some o := fun o u v => (upd_ne Aa.bk).trans ((upd_ne nac).trans upd_same)
  have h4 : ∀ o u v, upd (upd (upd H a o) c u) L.bk v c = some u := fun o u v => (upd_ne Ac.bk).trans upd_same
  have h5 : ∀ o u v, upd (upd (upd H a o) c u) L.bk v L.ev = some (.lst (es.map V.int)) := fun o u v => (upd_ne AP.ev_bk).trans ((upd_ne Ac.rev).trans ((upd_ne Aa.rev).trans B.ev))
  simp only [cxOf, Cx.nox, tSeq, tNext, tRet, tRetN, tDrop, tIfS, tVar, tC, tOp, tUn, tTest, tB, tAnd, tOr, tNot, tAndV, tOrV, tNotV, tIf, tFld, sFld, sFldAug, tAsg, gName, tAug, tCons, tNil, tCB, tCall, tMeth, tChain, sDPut, tDGet, tDIn, tDNotIn, tDGet1, tDPop1, tBM, tBM0, tLst, tTup, tDNewK, rI0, rI, CDiv, rU, L2.rAdd, L2.rSub, ipI, List.getElem?_cons_zero, List.getElem?_cons_succ, List.set_cons_zero, List.set_cons_succ, Option.some.injEq, exists_eq_left', exists_eq_left, V.ref.injEq, V.int.injEq, V.bl.injEq, HO.ins.injEq, HO.lst.injEq, HO.dK.injEq, HO.tup.injEq, and_assoc, true_and, and_true, exists_and_left, List.cons.injEq, List.append_nil, List.cons_append, List.nil_append, x_eq, x_ne, oF_inj, if_true, if_false, Bool.false_eq_true, ite_true, ite_false, eq_self_iff_true, T.clO, T.nO_number, T.nO_who, T.nO_side, T.nO_kind, T.nO_price, T.nO_amount, T.nO_trigger, oF_number, oF_who, oF_side, oF_kind, oF_price, oF_amount, oF_trigger, oF_put_number, oF_put_who, oF_put_side, oF_put_kind, oF_put_price, oF_put_amount, oF_put_trigger, T.clB, T.nB_lines, T.nB_waiting, T.nB_known, T.nB_latest, T.nB_in_auction, T.nB_events, bF_lines, bF_waiting, bF_known, bF_latest, bF_in_auction, bF_events, bF_put_latest, bF_put_in_auction, bF_put_events, ha, hc, h1, h2, h3, h4, upd_same, bF_no_tell, oF_len, bF_len]
  refine ⟨by decide, by decide, by decide, L, dx, _, _, es, _, _, _, _, _, _, rfl, upd_same, h5 _ _ _, hz, fun H3 e3 f3 => ?_⟩
  refine kk H3 ⟨dx, fr_1 f3 upd_same AP.bk_ev⟩ ⟨da, fr_1 f3 (h3 _ _ _) Aa.ev⟩ ⟨dc, fr_1 f3 (h4 _ _ _) Ac.ev⟩ e3 ?_
  refine (fr_upd.trans (fr_upd.trans fr_upd (zs := [c, L.bk]) ?_ ?_) (zs := [a, c, L.bk]) ?_ ?_).trans f3 ?_ ?_
  all_goals intro b hb
  all_goals refine .inl ?_
  all_goals simp only [List.mem_cons, List.not_mem_nil, or_false] at hb ⊢
  · exact .inl hb
  · exact .inr hb
  · exact .inl hb
  · exact .inr hb
  · rcases hb with h | h | h
    · exact .inl h
    · exact .inr (.inl h)
    · exact .inr (.inr (.inl h))
  · exact .inr (.inr (.inr hb))
end
end SB
namespace SB
open PySem PySem.Spec PyProof.Rows L2
section
variable {P : Program} {w : World} {K : PySem.W.Frag} {mg : Str → Option Value} {base : Heap} {CO CB : Addr}
/-! ### trade -/
def foot (L : Lay) (m : M) : List Addr := [L.bk, L.lb, L.ls, L.wl, L.kd, L.ev] ++ m.all.map (·.a)
theorem flat_snoc (p : List Sd17.Ev) (e : Sd17.Ev) : flat (p ++ [e]) = flat p ++ (Sd17.numbers e).map fun (x : Nat) => (x : Int) := by
  unfold flat
  rw [List.flatMap_append, List.map_append]
  congr 2
  exact List.append_nil _
theorem flat_app (p q : List Sd17.Ev) : flat (p ++ q) = flat p ++ flat q := by
  unfold flat
  rw [List.flatMap_append, List.map_append]
theorem flat_len (p : List Sd17.Ev) : (flat p).length = 6 * p.length := by
  induction p with
  | nil => rfl
  | cons e p ih =>
    have : flat (e :: p) = flat [e] ++ flat p := flat_app [e] p
    rw [this, List.length_append, ih, List.length_cons]
    have : (flat [e]).length = 6 := by cases e <;> rfl
    omega
/-- amounts of the book's orders change, and the latest price, and what is told -/
theorem BkAt.re {L : Lay} {H H' : Hp} {m : M} {es es' : List Int} {f : R → R} {p : Nat} {xs : List Addr} (h : BkAt CO CB L H m es) (hf : AmOnly f) (hb : ∃ dx, H' L.bk = some (.ins CB dx (bF L p m.auc))) (he : H' L.ev = some (.lst (es'.map V.int)))
    (od : ∀ r ∈ (mapM f m).all, OAt CO H' r.a r.w) (fr : Fr xs H H') (hx : ∀ b ∈ xs, b ≠ L.tl ∧ b ≠ L.lb ∧ b ≠ L.ls ∧ b ≠ L.wl ∧ b ≠ L.kd) : BkAt CO CB L H' ((mapM f m).at p) es' := by
  have hn := h.ok.mapM hf
  obtain ⟨_, tl, lb, ls, wl, ⟨kvs, kd, kn⟩, ev, _, ne, ok⟩ := h
  have hv : ∀ l : List R, (l.map f).map R.v = l.map R.v := fun l => by
    rw [List.map_map]
    refine List.map_congr_left fun r _ => ?_
    show V.ref (f r).a = V.ref r.a
    rw [hf.a]
  refine ⟨hb, fr_at fr tl fun x m => (hx x m).1.symm, ?_, ?_, fr_at fr wl fun x m => (hx x m).2.2.2.1.symm, ⟨kvs, fr_at fr kd fun x m => (hx x m).2.2.2.2.symm, kn.perm ?_⟩, he, od, ne, hn.at p⟩
  · show H' L.lb = some (.lst ((m.buys.map f).map R.v))
    rw [hv]
    exact fr_at fr lb fun x m => (hx x m).2.1.symm
  · show H' L.ls = some (.lst ((m.sells.map f).map R.v))
    rw [hv]
    exact fr_at fr ls fun x m => (hx x m).2.2.1.symm
  · exact mapM_key (fun r => (r.o.id, r.a)) f (fun r => by rw [hf.id, hf.a]) m
theorem setAm_w (r : R) (n : Nat) : (setAm r n).w = { r.w with m := (n : Int) } := rfl
theorem min_int (a b : Nat) : (if (b : Int) < (a : Int) then (b : Int) else (a : Int)) = ((min a b : Nat) : Int) := by
  split <;> omega
def mOf (m0 : M) (buy : Bool) (l : List R) (la : Nat) : M := (m0.put buy l).at la
theorem mOf_side (m0 : M) (buy : Bool) (l : List R) (la : Nat) : (mOf m0 buy l la).side buy = l := by cases buy <;> rfl
theorem mOf_put (m0 : M) (buy : Bool) (l l' : List R) (la : Nat) : (mOf m0 buy l la).put buy l' = mOf m0 buy l' la := by cases buy <;> rfl
theorem mOf_at (m0 : M) (buy : Bool) (l : List R) (la p : Nat) : (mOf m0 buy l la).at p = mOf m0 buy l p := rfl
theorem mOf_self (m : M) (buy : Bool) : mOf m buy (m.side buy) m.last = m := by cases buy <;> rfl
theorem mOf_auc (m0 : M) (buy : Bool) (l : List R) (la : Nat) : (mOf m0 buy l la).auc = m0.auc := by cases buy <;> rfl
/-- the orders of m are those of m0, or fewer -/
def Sub (m m0 : M) : Prop := ∀ x ∈ m.all, ∃ y ∈ m0.all, x.a = y.a ∧ x.o.id = y.o.id
theorem Sub.refl (m : M) : Sub m m := fun x hx => ⟨x, hx, rfl, rfl⟩
theorem Sub.trans {a b c : M} (h : Sub a b) (g : Sub b c) : Sub a c := fun x hx => by
  obtain ⟨y, hy, e1, e2⟩ := h x hx
  obtain ⟨z, hz, f1, f2⟩ := g y hy
  exact ⟨z, hz, e1.trans f1, e2.trans f2⟩
theorem Sub.out {m m0 : M} {r : R} (h : Sub m m0) (o : Out r m0) : Out r m := ⟨fun hm => by
  obtain ⟨x, hx, e⟩ := List.mem_map.mp hm
  obtain ⟨y, hy, e1, _⟩ := h x hx
  exact o.a (List.mem_map.mpr ⟨y, hy, e1.symm.trans e⟩), fun hm => by
  obtain ⟨x, hx, e⟩ := List.mem_map.mp hm
  obtain ⟨y, hy, _, e1⟩ := h x hx
  exact o.id (List.mem_map.mpr ⟨y, hy, e1.symm.trans e⟩)⟩
theorem Sub.foot {L : Lay} {m m0 : M} (h : Sub m m0) {b : Addr} (hb : b ∈ foot L m) : b ∈ foot L m0 := by
  unfold SB.foot at hb ⊢
  rcases List.mem_append.mp hb with e | e
  · exact List.mem_append.mpr (.inl e)
  · obtain ⟨x, hx, rfl⟩ := List.mem_map.mp e
    obtain ⟨y, hy, e1, _⟩ := h x hx
    rw [e1]
    exact List.mem_append.mpr (.inr (List.mem_map.mpr ⟨y, hy, rfl⟩))
theorem sub_del (id : Nat) (m : M) : Sub (delM id m) m := fun x hx => by
  rw [del_all] at hx
  exact ⟨x, (List.mem_filter.mp hx).1, rfl, rfl⟩
theorem sub_mapM {f : R → R} (hf : AmOnly f) (m : M) (p : Nat) : Sub ((mapM f m).at p) m := fun x hx => by
  have hx : x ∈ m.buys.map f ++ m.sells.map f ++ m.waits := hx
  rcases List.mem_append.mp hx with h | h
  · rcases List.mem_append.mp h with h | h
    · obtain ⟨y, hy, rfl⟩ := List.mem_map.mp h
      exact ⟨y, mem_all.mpr (.inl hy), hf.a y, hf.id y⟩
    · obtain ⟨y, hy, rfl⟩ := List.mem_map.mp h
      exact ⟨y, mem_all.mpr (.inr (.inl hy)), hf.a y, hf.id y⟩
  · exact ⟨x, mem_all.mpr (.inr (.inr h)), rfl, rfl⟩
theorem foot_own {L : Lay} {m : M} {b : Addr} (h : b = L.bk ∨ b = L.lb ∨ b = L.ls ∨ b = L.wl ∨ b = L.kd ∨ b = L.ev) : b ∈ foot L m := by
  unfold foot
  refine List.mem_append.mpr (.inl ?_)
  simp only [List.mem_cons, List.not_mem_nil, or_false]
  exact h
theorem foot_od {L : Lay} {m : M} {r : R} (h : r ∈ m.all) : r.a ∈ foot L m := List.mem_append.mpr (.inr (List.mem_map.mpr ⟨r, h, rfl⟩))
structure Trade (L : Lay) (m0 : M) (r0 : R) (es0 : List Int) (H0 : Hp) (CO CB : Addr) (r : R) (l : List R) (la : Nat) (pre : List Sd17.Ev) (H' : Hp) : Prop where
  B : BkAt CO CB L H' (mOf m0 (!r0.o.buy) l la) (es0 ++ flat pre)
  o : OAt CO H' r.a r.w
  a : r.a = r0.a
  k : r.k = r0.k
  buy : r.o.buy = r0.o.buy
  id : r.o.id = r0.o.id
  kind : r.o.kind = r0.o.kind
  who : r.o.who = r0.o.who
  eq : trd r0 (m0.side (!r0.o.buy)) m0.last = ((trd r l la).1, (trd r l la).2.1, (trd r l la).2.2.1, pre ++ (trd r l la).2.2.2)
  sub : Sub (mOf m0 (!r0.o.buy) l la) m0
  fr : Fr (r0.a :: foot L m0) H0 H'
def wTrade (L : Lay) (m0 : M) (r0 : R) (es0 : List Int) (H0 : Hp) (CO CB : Addr) (n : Nat) (σ : L2.St) (H' : Hp) : Prop := ∃ (r : R) (l : List R) (la : Nat) (pre : List Sd17.Ev) (b : Option V), σ = [some (.ref L.bk), some (.ref r.a), b] ∧ n = 2 * l.length + (if r.o.amount = 0 then 0 else 1) ∧ Trade L m0 r0 es0 H0 CO CB r l la pre H'
def spTrade (K : PySem.W.Frag) (CO CB : Addr) : Sp := fun vs H Q _ => ∃ (L : Lay) (m : M) (es : List Int) (r : R), vs = [.ref L.bk, .ref r.a] ∧ BkAt CO CB L H m es ∧ OAt CO H r.a r.w ∧ Out r m ∧ r.k = r.o.kind ∧ (es ++ flat (tradeM r m).2.2).length ≤ 10000000 ∧
  ∀ H', BkAt CO CB L H' (tradeM r m).2.1 (es ++ flat (tradeM r m).2.2) → OAt CO H' r.a (tradeM r m).1.w → Sub (tradeM r m).2.1 m → Fr (r.a :: foot L m) H H' → Q .non H'
theorem ln_Book_trade {vs : List V} {H : Hp} {Q : VK} {E : XK} (h : spTrade K CO CB vs H Q E) : vs.length = 2 := by
  obtain ⟨L, m, es, r, rfl, _⟩ := h
  rfl
theorem trd_stop {r : R} {l : List R} {la : Nat} (h : r.o.amount = 0 ∨ headTakes r l = false) : trd r l la = (r, l, la, []) := by
  cases l with
  | nil => simp [trd]
  | cons x l =>
    rcases h with h | h
    · exact trd_zero h _ _
    · have h : Sd17.takes r.o x.o.price = false := h
      unfold trd
      by_cases c : r.o.amount = 0
      · rw [if_pos c]
      · rw [if_neg c, if_pos h]
theorem ok_Book_trade {f : Addr} {fd : FuncData} (F : Fun K "trade" "Book.trade" s_Book_trade f fd) (T : Txt K mg CO CB) {f_Book_can_trade : Addr} {d_Book_can_trade : FuncData} (G_can_trade : Gm P w K mg base 2 CB "can_trade" f_Book_can_trade d_Book_can_trade ["self", "order"] (spCanTrade K CO CB)) {f_Book_other_line : Addr} {d_Book_other_line : FuncData} (G_other_line : Gm P w K mg base 1 CB "other_line" f_Book_other_line d_Book_other_line ["self", "order"] (spOtherLine K CO CB)) {f_Book_take_out : Addr} {d_Book_take_out : FuncData} (G_take_out : Gm P w K mg base 2 CB "take_out" f_Book_take_out d_Book_take_out ["self", "order"] (spTakeOut K CO CB)) {f_Book_end : Addr} {d_Book_end : FuncData} (G_end : Gm P w K mg base 2 CB "end" f_Book_end d_Book_end ["self", "order", "why"] (spEnd K CO CB)) {f_Book_exchange : Addr} {d_Book_exchange : FuncData} (G_exchange : Gm P w K mg base 2 CB "exchange" f_Book_exchange d_Book_exchange ["self", "order", "other", "price"] (spExchange K CO CB)) {f_Book_take_out_if_empty : Addr} {d_Book_take_out_if_empty : FuncData} (G_take_out_if_empty : Gm P w K mg base 3 CB "take_out_if_empty" f_Book_take_out_if_empty d_Book_take_out_if_empty ["self", "order"] (spTakeOutIfEmpty K CO CB)) : FnOk P w K mg base CX0 4 f fd ["self", "order"] (spTrade K CO CB) := by
  refine F.ok sc_Book_trade (fun vs H Q E h => ln_Book_trade h) (fun cdv A outer s H vs Q E hr h => ?_)
  have hu := hu_of hr
  refine ⟨_, (pss_one (ps_while PassesOwn.never (PW.pt (pw_and (pt_cmpR op_gt (pe_fld (pv 1) rfl) pe_int (nomark _)) (pw_and1 (pt_val (pe_meth (pv 0) T.clB G_can_trade.m G_can_trade.ok (hr.mono (by decide)) G_can_trade.b .nil pass0 (pa_cons (pv 1) pa_nil))))))
      (pss_cons (ps_set (i := 2) sc_Book_trade.nd rfl (Or.inl rfl) (pe_ix ix_list (pe_meth (pv 0) T.clB G_other_line.m G_other_line.ok (hr.mono (by decide)) G_other_line.b .nil pass0 (pa_cons (pv 1) pa_nil)) pe_int (fun _ _ => rfl)))
        (pss_one (ps_if (pt_cmpR op_eq (pe_fld (pv 2) rfl) (pe_fld (pv 1) rfl) (nomark _))
          (pss_cons (ps_expr (pe_meth (pv 0) T.clB G_take_out.m G_take_out.ok (hr.mono (by decide)) G_take_out.b .nil pass0 (pa_cons (pv 2) pa_nil)))
            (pss_one (ps_expr (pe_meth (pv 0) T.clB G_end.m G_end.ok (hr.mono (by decide)) G_end.b .nil pass0 (pa_cons (pv 2) (pa_cons (pg_int rfl T.c_SAME_PERSON) pa_nil))))))
          (pss_cons (ps_expr (pe_meth (pv 0) T.clB G_exchange.m G_exchange.ok (hr.mono (by decide)) G_exchange.b .nil pass0 (pa_cons (pv 1) (pa_cons (pv 2) (pa_cons (pe_fld (pv 2) rfl) pa_nil)))))
            (pss_one (ps_expr (pe_meth (pv 0) T.clB G_take_out_if_empty.m G_take_out_if_empty.ok (hr.mono (by decide)) G_take_out_if_empty.b .nil pass0 (pa_cons (pv 2) pa_nil)))))))))), ?_⟩

  obtain ⟨L, m0, es0, r0, rfl, B0, o0, out0, hk0, hz, kk⟩ := h
  rw [show L2.start ["self", "order", "best"] [V.ref L.bk, V.ref r0.a] = [some (.ref L.bk), some (.ref r0.a), none] from rfl]
  refine ⟨wTrade L m0 r0 es0 H CO CB, ⟨_, r0, m0.side (!r0.o.buy), m0.last, [], none, rfl, rfl, ?_⟩, ?_⟩
  · refine ⟨?_, o0, rfl, rfl, rfl, rfl, rfl, rfl, rfl, ?_, Fr.refl _ H⟩
    · rw [mOf_self]
      have : es0 ++ flat [] = es0 := List.append_nil _
      rw [this]
      exact B0
    · rw [mOf_self]
      exact Sub.refl _
  · rintro n σ H1 ⟨r, l, la, pre, b, rfl, rfl, t⟩
    obtain ⟨B, o, ea, ek, eb, ei, eki, ew, eq, sub, fr⟩ := id t
    have hk : r.k = r.o.kind := by rw [ek, eki]; exact hk0
    obtain ⟨dx, hb⟩ := B.ob
    obtain ⟨dr, hr⟩ := o
    have eside : (mOf m0 (!r0.o.buy) l la).side (!r.o.buy) = l := by rw [eb, mOf_side]
    simp only [cxOf, Cx.nox, tSeq, tNext, tRet, tRetN, tDrop, tIfS, tVar, tC, tOp, tUn, tTest, tB, tAnd, tOr, tNot, tAndV, tOrV, tNotV, tIf, tFld, sFld, sFldAug, tAsg, gName, tAug, tCons, tNil, tCB, tCall, tMeth, tChain, sDPut, tDGet, tDIn, tDNotIn, tDGet1, tDPop1, tBM, tBM0, tLst, tTup, tDNewK, rI0, rI, CDiv, rU, L2.rAdd, L2.rSub, ipI, List.getElem?_cons_zero, List.getElem?_cons_succ, List.set_cons_zero, List.set_cons_succ, Option.some.injEq, exists_eq_left', exists_eq_left, V.ref.injEq, V.int.injEq, V.bl.injEq, HO.ins.injEq, HO.lst.injEq, HO.dK.injEq, HO.tup.injEq, and_assoc, true_and, and_true, exists_and_left, List.cons.injEq, List.append_nil, List.cons_append, List.nil_append, x_eq, x_ne, oF_inj, if_true, if_false, Bool.false_eq_true, ite_true, ite_false, eq_self_iff_true, T.clO, T.nO_number, T.nO_who, T.nO_side, T.nO_kind, T.nO_price, T.nO_amount, T.nO_trigger, oF_number, oF_who, oF_side, oF_kind, oF_price, oF_amount, oF_trigger, oF_put_number, oF_put_who, oF_put_side, oF_put_kind, oF_put_price, oF_put_amount, oF_put_trigger, T.clB, T.nB_lines, T.nB_waiting, T.nB_known, T.nB_latest, T.nB_in_auction, T.nB_events, bF_lines, bF_waiting, bF_known, bF_latest, bF_in_auction, bF_events, bF_put_latest, bF_put_in_auction, bF_put_events, hb, hr, bF_no_can_trade]
    have fin : (r.o.amount = 0 ∨ headTakes r l = false) → Q .non H1 := fun hstop => by
      rw [trd_stop (la := la) hstop] at eq
      have eT : tradeM r0 m0 = (r, mOf m0 (!r0.o.buy) l la, pre) := by
        unfold tradeM
        rw [eq]
        show (r, mOf m0 (!r0.o.buy) l la, pre ++ []) = _
        rw [List.append_nil]
      rw [eT] at kk
      refine kk H1 B ?_ sub fr
      rw [← ea]
      exact ⟨dr, hr⟩
    have em : r.w.m = (r.o.amount : Int) := rfl
    rw [em]
    by_cases c : r.o.amount = 0
    · rw [decide_eq_false (by omega)]
      exact iteF (fin (.inl c))
    rw [decide_eq_true (by omega)]
    refine iteT ⟨L, _, _, r, rfl, B, ⟨dr, hr⟩, hk, ?_⟩
    rw [eside]
    cases eh : headTakes r l with
    | false => exact ⟨false, rfl, iteF (fin (.inr eh))⟩
    | true =>
      refine ⟨true, rfl, iteT ⟨_, fun _ _ n => n, ?_⟩⟩
      cases l with
      | nil => cases eh
      | cons x l =>
        have ht : Sd17.takes r.o x.o.price = true := eh
        simp only [cxOf, Cx.nox, tSeq, tNext, tRet, tRetN, tDrop, tIfS, tVar, tC, tOp, tUn, tTest, tB, tAnd, tOr, tNot, tAndV, tOrV, tNotV, tIf, tFld, sFld, sFldAug, tAsg, gName, tAug, tCons, tNil, tCB, tCall, tMeth, tChain, sDPut, tDGet, tDIn, tDNotIn, tDGet1, tDPop1, tBM, tBM0, tLst, tTup, tDNewK, rI0, rI, CDiv, rU, L2.rAdd, L2.rSub, ipI, List.getElem?_cons_zero, List.getElem?_cons_succ, List.set_cons_zero, List.set_cons_succ, Option.some.injEq, exists_eq_left', exists_eq_left, V.ref.injEq, V.int.injEq, V.bl.injEq, HO.ins.injEq, HO.lst.injEq, HO.dK.injEq, HO.tup.injEq, and_assoc, true_and, and_true, exists_and_left, List.cons.injEq, List.append_nil, List.cons_append, List.nil_append, x_eq, x_ne, oF_inj, if_true, if_false, Bool.false_eq_true, ite_true, ite_false, eq_self_iff_true, T.clO, T.nO_number, T.nO_who, T.nO_side, T.nO_kind, T.nO_price, T.nO_amount, T.nO_trigger, oF_number, oF_who, oF_side, oF_kind, oF_price, oF_amount, oF_trigger, oF_put_number, oF_put_who, oF_put_side, oF_put_kind, oF_put_price, oF_put_amount, oF_put_trigger, T.clB, T.nB_lines, T.nB_waiting, T.nB_known, T.nB_latest, T.nB_in_auction, T.nB_events, bF_lines, bF_waiting, bF_known, bF_latest, bF_in_auction, bF_events, bF_put_latest, bF_put_in_auction, bF_put_events, hb, bF_no_other_line]
        refine ⟨L, _, _, r, rfl, B, ⟨dr, hr⟩, ?_⟩
        rw [eb]
        have hl := B.line (!r0.o.buy)
        rw [mOf_side] at hl
        have hxs : x ∈ (mOf m0 (!r0.o.buy) (x :: l) la).side (!r0.o.buy) := by
          rw [mOf_side]
          exact List.mem_cons_self ..
        have hxa := side_all hxs
        refine ix_l hl at0 ?_
        obtain ⟨dx2, hx⟩ := B.od x hxa
        have Ax := B.ao ⟨dx2, hx⟩
        have Ar := B.ao ⟨dr, hr⟩
        have AP := B.ap
        have outr : Out r0 (mOf m0 (!r0.o.buy) (x :: l) la) := sub.out out0
        have nxr : x.a ≠ r.a := fun z => outr.a (by rw [← ea, ← z]; exact List.mem_map.mpr ⟨x, hxa, rfl⟩)
        have esd : (mOf m0 (!r0.o.buy) (x :: l) la).side (!r0.o.buy) = x :: l := mOf_side ..
        have evl : (es0 ++ flat pre).length ≤ 10000000 := by
          have e1 : (tradeM r0 m0).2.2 = pre ++ (trd r (x :: l) la).2.2.2 := by
            unfold tradeM
            rw [eq]
          rw [e1, flat_app, ← List.append_assoc, List.length_append] at hz
          omega
        simp only [cxOf, Cx.nox, tSeq, tNext, tRet, tRetN, tDrop, tIfS, tVar, tC, tOp, tUn, tTest, tB, tAnd, tOr, tNot, tAndV, tOrV, tNotV, tIf, tFld, sFld, sFldAug, tAsg, gName, tAug, tCons, tNil, tCB, tCall, tMeth, tChain, sDPut, tDGet, tDIn, tDNotIn, tDGet1, tDPop1, tBM, tBM0, tLst, tTup, tDNewK, rI0, rI, CDiv, rU, L2.rAdd, L2.rSub, ipI, List.getElem?_cons_zero, List.getElem?_cons_succ, List.set_cons_zero, List.set_cons_succ, Option.some.injEq, exists_eq_left', exists_eq_left, V.ref.injEq, V.int.injEq, V.bl.injEq, HO.ins.injEq, HO.lst.injEq, HO.dK.injEq, HO.tup.injEq, and_assoc, true_and, and_true, exists_and_left, List.cons.injEq, List.append_nil, List.cons_append, List.nil_append, x_eq, x_ne, oF_inj, if_true, if_false, Bool.false_eq_true, ite_true, ite_false, eq_self_iff_true, T.clO, T.nO_number, T.nO_who, T.nO_side, T.nO_kind, T.nO_price, T.nO_amount, T.nO_trigger, oF_number, oF_who, oF_side, oF_kind, oF_price, oF_amount, oF_trigger, oF_put_number, oF_put_who, oF_put_side, oF_put_kind, oF_put_price, oF_put_amount, oF_put_trigger, T.clB, T.nB_lines, T.nB_waiting, T.nB_known, T.nB_latest, T.nB_in_auction, T.nB_events, bF_lines, bF_waiting, bF_known, bF_latest, bF_in_auction, bF_events, bF_put_latest, bF_put_in_auction, bF_put_events, hx, hr, R.v]
        have ew2 : (x.w.w = r.w.w) = (x.o.who = r.o.who) := by
          show ((x.o.who : Int) = (r.o.who : Int)) = _
          rw [eq_iff_iff]
          omega
        by_cases hw : x.o.who = r.o.who
        · rw [decide_eq_true (by rw [ew2]; exact hw)]
          refine iteT ?_
          simp only [cxOf, Cx.nox, tSeq, tNext, tRet, tRetN, tDrop, tIfS, tVar, tC, tOp, tUn, tTest, tB, tAnd, tOr, tNot, tAndV, tOrV, tNotV, tIf, tFld, sFld, sFldAug, tAsg, gName, tAug, tCons, tNil, tCB, tCall, tMeth, tChain, sDPut, tDGet, tDIn, tDNotIn, tDGet1, tDPop1, tBM, tBM0, tLst, tTup, tDNewK, rI0, rI, CDiv, rU, L2.rAdd, L2.rSub, ipI, List.getElem?_cons_zero, List.getElem?_cons_succ, List.set_cons_zero, List.set_cons_succ, Option.some.injEq, exists_eq_left', exists_eq_left, V.ref.injEq, V.int.injEq, V.bl.injEq, HO.ins.injEq, HO.lst.injEq, HO.dK.injEq, HO.tup.injEq, and_assoc, true_and, and_true, exists_and_left, List.cons.injEq, List.append_nil, List.cons_append, List.nil_append, x_eq, x_ne, oF_inj, if_true, if_false, Bool.false_eq_true, ite_true, ite_false, eq_self_iff_true, T.clO, T.nO_number, T.nO_who, T.nO_side, T.nO_kind, T.nO_price, T.nO_amount, T.nO_trigger, oF_number, oF_who, oF_side, oF_kind, oF_price, oF_amount, oF_trigger, oF_put_number, oF_put_who, oF_put_side, oF_put_kind, oF_put_price, oF_put_amount, oF_put_trigger, T.clB, T.nB_lines, T.nB_waiting, T.nB_known, T.nB_latest, T.nB_in_auction, T.nB_events, bF_lines, bF_waiting, bF_known, bF_latest, bF_in_auction, bF_events, bF_put_latest, bF_put_in_auction, bF_put_events, hb, bF_no_take_out]
          refine ⟨L, _, _, x, rfl, B, hxa, fun H2 B2 f2 => ?_⟩
          rw [del_head B.ok esd, mOf_put] at B2
          obtain ⟨dx3, hb2⟩ := B2.ob
          have hx2 : H2 x.a = some (.ins CO dx2 (oF x.w)) := fr_at f2 hx fun y hy => by
            simp only [List.mem_cons, List.not_mem_nil, or_false] at hy
            rcases hy with rfl | rfl | rfl | rfl
            · exact Ax.lb
            · exact Ax.ls
            · exact Ax.wl
            · exact Ax.kd
          have hr2 : H2 r.a = some (.ins CO dr (oF r.w)) := fr_at f2 hr fun y hy => by
            simp only [List.mem_cons, List.not_mem_nil, or_false] at hy
            rcases hy with rfl | rfl | rfl | rfl
            · exact Ar.lb
            · exact Ar.ls
            · exact Ar.wl
            · exact Ar.kd
          simp only [cxOf, Cx.nox, tSeq, tNext, tRet, tRetN, tDrop, tIfS, tVar, tC, tOp, tUn, tTest, tB, tAnd, tOr, tNot, tAndV, tOrV, tNotV, tIf, tFld, sFld, sFldAug, tAsg, gName, tAug, tCons, tNil, tCB, tCall, tMeth, tChain, sDPut, tDGet, tDIn, tDNotIn, tDGet1, tDPop1, tBM, tBM0, tLst, tTup, tDNewK, rI0, rI, CDiv, rU, L2.rAdd, L2.rSub, ipI, List.getElem?_cons_zero, List.getElem?_cons_succ, List.set_cons_zero, List.set_cons_succ, Option.some.injEq, exists_eq_left', exists_eq_left, V.ref.injEq, V.int.injEq, V.bl.injEq, HO.ins.injEq, HO.lst.injEq, HO.dK.injEq, HO.tup.injEq, and_assoc, true_and, and_true, exists_and_left, List.cons.injEq, List.append_nil, List.cons_append, List.nil_append, x_eq, x_ne, oF_inj, if_true, if_false, Bool.false_eq_true, ite_true, ite_false, eq_self_iff_true, T.clO, T.nO_number, T.nO_who, T.nO_side, T.nO_kind, T.nO_price, T.nO_amount, T.nO_trigger, oF_number, oF_who, oF_side, oF_kind, oF_price, oF_amount, oF_trigger, oF_put_number, oF_put_who, oF_put_side, oF_put_kind, oF_put_price, oF_put_amount, oF_put_trigger, T.clB, T.nB_lines, T.nB_waiting, T.nB_known, T.nB_latest, T.nB_in_auction, T.nB_events, bF_lines, bF_waiting, bF_known, bF_latest, bF_in_auction, bF_events, bF_put_latest, bF_put_in_auction, bF_put_events, hb2, bF_no_end]
          refine ⟨L, _, _, x.a, x.w, 5, rfl, B2, ⟨dx2, hx2⟩, evl, fun H3 B3 f3 => ?_⟩
          refine ⟨_, ?_, r, l, la, pre ++ [.ended x.o.id 5 x.o.price x.o.amount], _, rfl, rfl, ?_⟩
          · rw [List.length_cons]
            omega
          · refine ⟨?_, ⟨dr, fr_1 f3 hr2 Ar.ev⟩, ea, ek, eb, ei, eki, ew, ?_, ?_, ?_⟩
            · rw [flat_snoc, ← List.append_assoc]
              exact B3
            · rw [eq]
              have e2 : trd r (x :: l) la = ((trd r l la).1, (trd r l la).2.1, (trd r l la).2.2.1, .ended x.o.id 5 x.o.price x.o.amount :: (trd r l la).2.2.2) := by
                rw [trd, if_neg c, if_neg (by rw [ht]; simp), if_pos hw]
              rw [e2, List.append_assoc]
              rfl
            · have := sub_del x.o.id (mOf m0 (!r0.o.buy) (x :: l) la)
              rw [del_head B.ok esd, mOf_put] at this
              exact this.trans sub
            · refine (fr.trans f2 (fun b hb => .inl hb) fun b hb => .inl (List.mem_cons_of_mem _ (foot_own ?_))).trans f3 (fun b hb => .inl hb) fun b hb => .inl (List.mem_cons_of_mem _ (foot_own ?_))
              · simp only [List.mem_cons, List.not_mem_nil, or_false] at hb
                rcases hb with h | h | h | h
                · exact .inr (.inl h)
                · exact .inr (.inr (.inl h))
                · exact .inr (.inr (.inr (.inl h)))
                · exact .inr (.inr (.inr (.inr (.inl h))))
              · exact .inr (.inr (.inr (.inr (.inr (List.mem_singleton.mp hb)))))
        · rw [decide_eq_false (by rw [ew2]; exact hw)]
          refine iteF ?_
          simp only [cxOf, Cx.nox, tSeq, tNext, tRet, tRetN, tDrop, tIfS, tVar, tC, tOp, tUn, tTest, tB, tAnd, tOr, tNot, tAndV, tOrV, tNotV, tIf, tFld, sFld, sFldAug, tAsg, gName, tAug, tCons, tNil, tCB, tCall, tMeth, tChain, sDPut, tDGet, tDIn, tDNotIn, tDGet1, tDPop1, tBM, tBM0, tLst, tTup, tDNewK, rI0, rI, CDiv, rU, L2.rAdd, L2.rSub, ipI, List.getElem?_cons_zero, List.getElem?_cons_succ, List.set_cons_zero, List.set_cons_succ, Option.some.injEq, exists_eq_left', exists_eq_left, V.ref.injEq, V.int.injEq, V.bl.injEq, HO.ins.injEq, HO.lst.injEq, HO.dK.injEq, HO.tup.injEq, and_assoc, true_and, and_true, exists_and_left, List.cons.injEq, List.append_nil, List.cons_append, List.nil_append, x_eq, x_ne, oF_inj, if_true, if_false, Bool.false_eq_true, ite_true, ite_false, eq_self_iff_true, T.clO, T.nO_number, T.nO_who, T.nO_side, T.nO_kind, T.nO_price, T.nO_amount, T.nO_trigger, oF_number, oF_who, oF_side, oF_kind, oF_price, oF_amount, oF_trigger, oF_put_number, oF_put_who, oF_put_side, oF_put_kind, oF_put_price, oF_put_amount, oF_put_trigger, T.clB, T.nB_lines, T.nB_waiting, T.nB_known, T.nB_latest, T.nB_in_auction, T.nB_events, bF_lines, bF_waiting, bF_known, bF_latest, bF_in_auction, bF_events, bF_put_latest, bF_put_in_auction, bF_put_events, hb, hx, bF_no_exchange]
          refine ⟨L, _, _, r.a, x.a, r.w, x.w, x.o.price, rfl, B, ⟨dr, hr⟩, ⟨dx2, hx⟩, nxr.symm, evl, fun H2 hb2 hr2 hx2 he2 f2 => ?_⟩
          have en : (if x.w.m < r.w.m then x.w.m else r.w.m) = ((min r.o.amount x.o.amount : Nat) : Int) := min_int r.o.amount x.o.amount
          rw [en] at hr2 hx2 he2
          generalize hn : min r.o.amount x.o.amount = n at hr2 hx2 he2
          have er : ({ r.w with m := r.w.m - (n : Int) } : W) = (setAm r (r.o.amount - n)).w := by
            rw [setAm_w]
            have : r.w.m - (n : Int) = ((r.o.amount - n : Nat) : Int) := by
              rw [em]
              omega
            rw [this]
          have ex : ({ x.w with m := x.w.m - (n : Int) } : W) = (setAm x (x.o.amount - n)).w := by
            rw [setAm_w]
            have : x.w.m - (n : Int) = ((x.o.amount - n : Nat) : Int) := by
              show (x.o.amount : Int) - n = _
              omega
            rw [this]
          rw [er] at hr2
          rw [ex] at hx2
          -- the book with the amount of its best changed
          have B2 : BkAt CO CB L H2 (mOf m0 (!r0.o.buy) (setAm x (x.o.amount - n) :: l) x.o.price) (es0 ++ flat (pre ++ [.trade r.o.id x.o.id x.o.price n (x.o.amount - n)])) := by
            have hre := B.re (reA_am x.a (x.o.amount - n)) hb2 he2 (fun q hq => ?_) f2 fun b hb => ?_
            · rw [re_head B.ok (x.o.amount - n) esd, mOf_put, mOf_at] at hre
              rw [flat_snoc, ← List.append_assoc]
              have : ((Sd17.numbers (.trade r.o.id x.o.id x.o.price n (x.o.amount - n))).map fun (x : Nat) => (x : Int)) = [1, r.w.n, x.w.n, (x.o.price : Int), (n : Int), x.w.m - (n : Int)] := by
                show [(1 : Int), (r.o.id : Int), (x.o.id : Int), (x.o.price : Int), (n : Int), ((x.o.amount - n : Nat) : Int)] = [1, (r.o.id : Int), (x.o.id : Int), (x.o.price : Int), (n : Int), (x.o.amount : Int) - (n : Int)]
                have : ((x.o.amount - n : Nat) : Int) = (x.o.amount : Int) - (n : Int) := by omega
                rw [this]
              rw [this]
              exact hre
            · have key : ∀ y ∈ (mOf m0 (!r0.o.buy) (x :: l) la).all, OAt CO H2 (reA x.a (x.o.amount - n) y).a (reA x.a (x.o.amount - n) y).w := fun y hy => by
                unfold reA
                by_cases cy : y.a = x.a
                · rw [if_pos cy]
                  have : y = x := nodup_inj B.ok.addr hy hxa cy
                  rw [this]
                  exact hx2
                · rw [if_neg cy]
                  obtain ⟨dy, hy2⟩ := B.od y hy
                  have Ay := B.ao ⟨dy, hy2⟩
                  have nyr : y.a ≠ r.a := fun z => outr.a (by rw [← ea, ← z]; exact List.mem_map.mpr ⟨y, hy, rfl⟩)
                  exact ⟨dy, fr_at f2 hy2 fun b hb => by
                    simp only [List.mem_cons, List.not_mem_nil, or_false] at hb
                    rcases hb with rfl | rfl | rfl | rfl
                    · exact nyr
                    · exact cy
                    · exact Ay.bk
                    · exact Ay.ev⟩
              have hq : q ∈ ((mOf m0 (!r0.o.buy) (x :: l) la).buys.map (reA x.a (x.o.amount - n))) ++ ((mOf m0 (!r0.o.buy) (x :: l) la).sells.map (reA x.a (x.o.amount - n))) ++ (mOf m0 (!r0.o.buy) (x :: l) la).waits := hq
              rcases List.mem_append.mp hq with h | h
              · rcases List.mem_append.mp h with h | h
                · obtain ⟨y, hy, rfl⟩ := List.mem_map.mp h
                  exact key y (mem_all.mpr (.inl hy))
                · obtain ⟨y, hy, rfl⟩ := List.mem_map.mp h
                  exact key y (mem_all.mpr (.inr (.inl hy)))
              · have hqa := mem_all.mpr (.inr (.inr h))
                have := key q hqa
                have nq : q.a ≠ x.a := fun z => by
                  have e3 : q = x := nodup_inj B.ok.addr hqa hxa z
                  have h1 := (B.ok.w q h).1
                  have h2 := (B.ok.side _ x hxs).2
                  rw [e3] at h1
                  omega
                unfold reA at this
                rw [if_neg nq] at this
                exact this
            · simp only [List.mem_cons, List.not_mem_nil, or_false] at hb
              rcases hb with rfl | rfl | rfl | rfl
              · exact ⟨Ar.tl, Ar.lb, Ar.ls, Ar.wl, Ar.kd⟩
              · exact ⟨Ax.tl, Ax.lb, Ax.ls, Ax.wl, Ax.kd⟩
              · exact ⟨AP.bk_tl, AP.bk_lb, AP.bk_ls, AP.bk_wl, AP.bk_kd⟩
              · exact ⟨AP.ev_tl, AP.ev_lb, AP.ev_ls, AP.ev_wl, AP.ev_kd⟩
          have esd2 : (mOf m0 (!r0.o.buy) (setAm x (x.o.amount - n) :: l) x.o.price).side (!r0.o.buy) = setAm x (x.o.amount - n) :: l := mOf_side ..
          have hxa2 : setAm x (x.o.amount - n) ∈ (mOf m0 (!r0.o.buy) (setAm x (x.o.amount - n) :: l) x.o.price).all := side_all (buy := !r0.o.buy) (by rw [esd2]; exact List.mem_cons_self ..)
          have sub2 : Sub (mOf m0 (!r0.o.buy) (setAm x (x.o.amount - n) :: l) x.o.price) m0 := by
            have := sub_mapM (reA_am x.a (x.o.amount - n)) (mOf m0 (!r0.o.buy) (x :: l) la) x.o.price
            rw [re_head B.ok (x.o.amount - n) esd, mOf_put, mOf_at] at this
            exact this.trans sub
          have fr2 : Fr (r0.a :: foot L m0) H H2 := fr.trans f2 (fun b hb => .inl hb) fun b hb => .inl (by
            simp only [List.mem_cons, List.not_mem_nil, or_false] at hb
            rcases hb with rfl | rfl | rfl | rfl
            · rw [ea]
              exact List.mem_cons_self ..
            · exact List.mem_cons_of_mem _ (sub.foot (foot_od hxa))
            · exact List.mem_cons_of_mem _ (foot_own (.inl rfl))
            · exact List.mem_cons_of_mem _ (foot_own (.inr (.inr (.inr (.inr (.inr rfl)))))))
          obtain ⟨dx3, hb3⟩ := B2.ob
          simp only [cxOf, Cx.nox, tSeq, tNext, tRet, tRetN, tDrop, tIfS, tVar, tC, tOp, tUn, tTest, tB, tAnd, tOr, tNot, tAndV, tOrV, tNotV, tIf, tFld, sFld, sFldAug, tAsg, gName, tAug, tCons, tNil, tCB, tCall, tMeth, tChain, sDPut, tDGet, tDIn, tDNotIn, tDGet1, tDPop1, tBM, tBM0, tLst, tTup, tDNewK, rI0, rI, CDiv, rU, L2.rAdd, L2.rSub, ipI, List.getElem?_cons_zero, List.getElem?_cons_succ, List.set_cons_zero, List.set_cons_succ, Option.some.injEq, exists_eq_left', exists_eq_left, V.ref.injEq, V.int.injEq, V.bl.injEq, HO.ins.injEq, HO.lst.injEq, HO.dK.injEq, HO.tup.injEq, and_assoc, true_and, and_true, exists_and_left, List.cons.injEq, List.append_nil, List.cons_append, List.nil_append, x_eq, x_ne, oF_inj, if_true, if_false, Bool.false_eq_true, ite_true, ite_false, eq_self_iff_true, T.clO, T.nO_number, T.nO_who, T.nO_side, T.nO_kind, T.nO_price, T.nO_amount, T.nO_trigger, oF_number, oF_who, oF_side, oF_kind, oF_price, oF_amount, oF_trigger, oF_put_number, oF_put_who, oF_put_side, oF_put_kind, oF_put_price, oF_put_amount, oF_put_trigger, T.clB, T.nB_lines, T.nB_waiting, T.nB_known, T.nB_latest, T.nB_in_auction, T.nB_events, bF_lines, bF_waiting, bF_known, bF_latest, bF_in_auction, bF_events, bF_put_latest, bF_put_in_auction, bF_put_events, hb3, bF_no_take_out_if_empty]
          refine ⟨L, _, _, setAm x (x.o.amount - n), rfl, B2, hxa2, fun H3 B3 f3 => ?_⟩
          have hr3 : OAt CO H3 r.a (setAm r (r.o.amount - n)).w := oat_keep hr2 f3 fun y hy => by
            simp only [List.mem_cons, List.not_mem_nil, or_false] at hy
            rcases hy with rfl | rfl | rfl | rfl
            · exact Ar.lb
            · exact Ar.ls
            · exact Ar.wl
            · exact Ar.kd
          have fr3 : Fr (r0.a :: foot L m0) H H3 := fr2.trans f3 (fun b hb => .inl hb) fun b hb => .inl (List.mem_cons_of_mem _ (foot_own (by
            simp only [List.mem_cons, List.not_mem_nil, or_false] at hb
            rcases hb with h | h | h | h
            · exact .inr (.inl h)
            · exact .inr (.inr (.inl h))
            · exact .inr (.inr (.inr (.inl h)))
            · exact .inr (.inr (.inr (.inr (.inl h)))))))
          unfold emptyM at B3
          by_cases hz0 : x.o.amount - n = 0
          · have c1 : (setAm x (x.o.amount - n)).o.amount = 0 := hz0
            rw [if_pos c1, del_head B2.ok esd2, mOf_put] at B3
            refine ⟨_, ?_, setAm r (r.o.amount - n), l, x.o.price, pre ++ [.trade r.o.id x.o.id x.o.price n (x.o.amount - n)], _, rfl, rfl, ?_⟩
            · rw [List.length_cons]
              split <;> omega
            · refine ⟨B3, hr3, ea, ek, eb, ei, eki, ew, ?_, ?_, fr3⟩
              · rw [eq]
                have e2 : trd r (x :: l) la = ((trd (setAm r (r.o.amount - n)) l x.o.price).1, (trd (setAm r (r.o.amount - n)) l x.o.price).2.1, (trd (setAm r (r.o.amount - n)) l x.o.price).2.2.1, .trade r.o.id x.o.id x.o.price n (x.o.amount - n) :: (trd (setAm r (r.o.amount - n)) l x.o.price).2.2.2) := by
                  rw [trd, if_neg c, if_neg (by rw [ht]; simp), if_neg hw, hn, if_pos hz0]
                rw [e2, List.append_assoc]
                rfl
              · have := sub_del x.o.id (mOf m0 (!r0.o.buy) (setAm x (x.o.amount - n) :: l) x.o.price)
                rw [show x.o.id = (setAm x (x.o.amount - n)).o.id from rfl, del_head B2.ok esd2, mOf_put] at this
                exact this.trans sub2
          · have c1 : ¬ (setAm x (x.o.amount - n)).o.amount = 0 := hz0
            rw [if_neg c1] at B3
            have hr0 : r.o.amount - n = 0 := by omega
            refine ⟨_, ?_, setAm r (r.o.amount - n), setAm x (x.o.amount - n) :: l, x.o.price, pre ++ [.trade r.o.id x.o.id x.o.price n (x.o.amount - n)], _, rfl, rfl, ?_⟩
            · rw [if_neg c, if_pos (show (setAm r (r.o.amount - n)).o.amount = 0 from hr0), List.length_cons, List.length_cons]
              omega
            · refine ⟨B3, hr3, ea, ek, eb, ei, eki, ew, ?_, sub2, fr3⟩
              rw [eq]
              have e2 : trd r (x :: l) la = (setAm r (r.o.amount - n), setAm x (x.o.amount - n) :: l, x.o.price, [.trade r.o.id x.o.id x.o.price n (x.o.amount - n)]) := by
                rw [trd, if_neg c, if_neg (by rw [ht]; simp), if_neg hw, hn, if_neg hz0]
              rw [e2, trd_zero (show (setAm r (r.o.amount - n)).o.amount = 0 from hr0), List.append_nil]
end
end SB
namespace SB
open PySem PySem.Spec PyProof.Rows L2
section
/-! ### what trading and coming leave of the orders -/
theorem trd_same : ∀ (l : List R) (r : R) (la : Nat), (trd r l la).1.a = r.a ∧ (trd r l la).1.k = r.k ∧ (trd r l la).1.t = r.t ∧ (trd r l la).1.o = { r.o with amount := (trd r l la).1.o.amount }
  | [], r, la => ⟨rfl, rfl, rfl, rfl⟩
  | x :: l, r, la => by
    unfold trd
    split
    · exact ⟨rfl, rfl, rfl, rfl⟩
    · split
      · exact ⟨rfl, rfl, rfl, rfl⟩
      · split
        · exact trd_same l r la
        · split
          · exact trd_same l (setAm r _) x.o.price
          · exact ⟨rfl, rfl, rfl, rfl⟩
theorem trd_sub : ∀ (l : List R) (r : R) (la : Nat), (∀ x ∈ (trd r l la).2.1, ∃ y ∈ l, x.a = y.a ∧ x.o.id = y.o.id) ∧ (trd r l la).2.1.length ≤ l.length
  | [], r, la => ⟨fun x hx => (nomatch hx), Nat.le_refl _⟩
  | x :: l, r, la => by
    have self : (∀ z ∈ x :: l, ∃ y ∈ x :: l, z.a = y.a ∧ z.o.id = y.o.id) ∧ (x :: l).length ≤ (x :: l).length := ⟨fun z hz => ⟨z, hz, rfl, rfl⟩, Nat.le_refl _⟩
    have deep : ∀ (r : R) (la : Nat), (∀ z ∈ (trd r l la).2.1, ∃ y ∈ x :: l, z.a = y.a ∧ z.o.id = y.o.id) ∧ (trd r l la).2.1.length ≤ (x :: l).length := fun r la => by
      obtain ⟨h1, h2⟩ := trd_sub l r la
      refine ⟨fun z hz => ?_, by rw [List.length_cons]; omega⟩
      obtain ⟨y, hy, e⟩ := h1 z hz
      exact ⟨y, List.mem_cons_of_mem _ hy, e⟩
    unfold trd
    split
    · exact self
    · split
      · exact self
      · split
        · exact deep r la
        · split
          · exact deep (setAm r _) x.o.price
          · refine ⟨fun z hz => ?_, Nat.le_refl _⟩
            rcases List.mem_cons.mp hz with h | h
            · exact ⟨x, List.mem_cons_self .., by rw [h]; rfl, by rw [h]; rfl⟩
            · exact ⟨z, List.mem_cons_of_mem _ h, rfl, rfl⟩
theorem put_all {m : M} {buy : Bool} {l : List R} (h : ∀ x ∈ l, ∃ y ∈ m.side buy, x.a = y.a ∧ x.o.id = y.o.id) (la : Nat) : Sub ((m.put buy l).at la) m := fun x hx => by
  rcases mem_all.mp hx with h1 | h1 | h1
  · cases buy
    · exact ⟨x, mem_all.mpr (.inl h1), rfl, rfl⟩
    · obtain ⟨y, hy, e⟩ := h x h1
      exact ⟨y, side_all hy, e⟩
  · cases buy
    · obtain ⟨y, hy, e⟩ := h x h1
      exact ⟨y, side_all hy, e⟩
    · exact ⟨x, mem_all.mpr (.inr (.inl h1)), rfl, rfl⟩
  · cases buy
    · exact ⟨x, mem_all.mpr (.inr (.inr h1)), rfl, rfl⟩
    · exact ⟨x, mem_all.mpr (.inr (.inr h1)), rfl, rfl⟩
theorem put_len {m : M} {buy : Bool} {l : List R} (h : l.length ≤ (m.side buy).length) (la : Nat) : ((m.put buy l).at la).all.length ≤ m.all.length := by
  cases buy
  · show (m.buys ++ l ++ m.waits).length ≤ (m.buys ++ m.sells ++ m.waits).length
    have h : l.length ≤ m.sells.length := h
    rw [List.length_append, List.length_append, List.length_append, List.length_append]
    omega
  · show (l ++ m.sells ++ m.waits).length ≤ (m.buys ++ m.sells ++ m.waits).length
    have h : l.length ≤ m.buys.length := h
    rw [List.length_append, List.length_append, List.length_append, List.length_append]
    omega
/-- the orders of m' are those of m, or fewer, and perhaps r -/
def SubR (r : R) (m' m : M) : Prop := ∀ x ∈ m'.all, (∃ y ∈ m.all, x.a = y.a ∧ x.o.id = y.o.id) ∨ (x.a = r.a ∧ x.o.id = r.o.id)
theorem trade_sub (r : R) (m : M) : Sub (tradeM r m).2.1 m := put_all (trd_sub _ r m.last).1 _
theorem trade_len (r : R) (m : M) : (tradeM r m).2.1.all.length ≤ m.all.length := put_len (trd_sub _ r m.last).2 _
theorem rest_sub (r : R) (m : M) : SubR r (restM r m) m := fun x hx => by
  rcases List.mem_cons.mp ((rest_perm r m).mem_iff.mp hx) with h | h
  · exact .inr ⟨by rw [h], by rw [h]⟩
  · exact .inl ⟨x, h, rfl, rfl⟩
theorem settle_sub (r : R) (m : M) : SubR r (settleM r m).1 m := by
  have self : SubR r m m := fun x hx => .inl ⟨x, hx, rfl, rfl⟩
  unfold settleM
  split
  · exact self
  · split
    · exact rest_sub (zeroK r) m
    · exact self
theorem settle_len (r : R) (m : M) : (settleM r m).1.all.length ≤ m.all.length + 1 := by
  unfold settleM
  split
  · exact Nat.le_succ _
  · split
    · exact Nat.le_of_eq (rest_perm (zeroK r) m).length_eq
    · exact Nat.le_succ _
theorem settle_waits (r : R) (m : M) : (settleM r m).1.waits = m.waits := by
  unfold settleM restM
  split
  · rfl
  · split
    · rw [put_waits]
    · rfl
theorem trade_waits (r : R) (m : M) : (tradeM r m).2.1.waits = m.waits := by
  unfold tradeM
  exact put_waits _ _ _
theorem come_waits (r : R) (m : M) : (comeM r m).1.waits = m.waits := by
  unfold comeM
  split
  · rfl
  · split
    · rfl
    · rw [settle_waits, trade_waits]
theorem come_sub (r : R) (m : M) : SubR r (comeM r m).1 m := by
  have self : SubR r m m := fun x hx => .inl ⟨x, hx, rfl, rfl⟩
  unfold comeM
  split
  · exact self
  · split
    · exact self
    · intro x hx
      obtain ⟨s1, s2, s3, s4⟩ := trd_same (m.side (!r.o.buy)) r m.last
      rcases settle_sub _ _ x hx with ⟨y, hy, e1, e2⟩ | ⟨e1, e2⟩
      · obtain ⟨z, hz, f1, f2⟩ := trade_sub r m y hy
        exact .inl ⟨z, hz, e1.trans f1, e2.trans f2⟩
      · refine .inr ⟨e1.trans s1, e2.trans ?_⟩
        show (trd r (m.side (!r.o.buy)) m.last).1.o.id = r.o.id
        rw [s4]
theorem come_len (r : R) (m : M) : (comeM r m).1.all.length ≤ m.all.length + 1 := by
  unfold comeM
  split
  · exact Nat.le_succ _
  · split
    · exact Nat.le_succ _
    · exact Nat.le_trans (settle_len _ _) (Nat.succ_le_succ (trade_len r m))
end
section
variable {P : Program} {w : World} {K : PySem.W.Frag} {mg : Str → Option Value} {base : Heap} {CO CB : Addr}
/-! ### settle, come -/
def spSettle (K : PySem.W.Frag) (CO CB : Addr) : Sp := fun vs H Q _ => ∃ (L : Lay) (m : M) (es : List Int) (r : R), vs = [.ref L.bk, .ref r.a] ∧ BkAt CO CB L H m es ∧ OAt CO H r.a r.w ∧ Out r m ∧ r.k = r.o.kind ∧ es.length ≤ 10000000 ∧ m.all.length ≤ 100000 ∧
  ∀ H', BkAt CO CB L H' (settleM r m).1 (es ++ flat (settleM r m).2) → Fr [L.lb, L.ls, L.kd, L.ev] H H' → Q .non H'
theorem ln_Book_settle {vs : List V} {H : Hp} {Q : VK} {E : XK} (h : spSettle K CO CB vs H Q E) : vs.length = 2 := by
  obtain ⟨L, m, es, r, rfl, _⟩ := h
  rfl
theorem ok_Book_settle {f : Addr} {fd : FuncData} (F : Fun K "settle" "Book.settle" s_Book_settle f fd) (T : Txt K mg CO CB) {f_Book_rest : Addr} {d_Book_rest : FuncData} (G_rest : Gm P w K mg base 3 CB "rest" f_Book_rest d_Book_rest ["self", "order"] (spRest K CO CB)) {f_Book_end : Addr} {d_Book_end : FuncData} (G_end : Gm P w K mg base 2 CB "end" f_Book_end d_Book_end ["self", "order", "why"] (spEnd K CO CB)) : FnOk P w K mg base CX0 4 f fd ["self", "order"] (spSettle K CO CB) := by
  refine F.ok sc_Book_settle (fun vs H Q E h => ln_Book_settle h) (fun cdv A outer s H vs Q E hr h => ?_)
  have hu := hu_of hr
  refine ⟨_, (pss_cons (ps_if (pt_cmpR op_eq (pe_fld (pv 1) rfl) pe_int (nomark _))
      (pss_one (ps_retN))
      pss_nil)
    (pss_one (ps_if (PW.pt (pw_or (pt_cmpR op_eq (pe_fld (pv 1) rfl) (pg_int rfl T.c_LIMIT) (nomark _)) (pw_or1 (pt_cmpR op_eq (pe_fld (pv 1) rfl) (pg_int rfl T.c_ONLY_TO_REST) (nomark _)))))
      (pss_one (ps_expr (pe_meth (pv 0) T.clB G_rest.m G_rest.ok (hr.mono (by decide)) G_rest.b .nil pass0 (pa_cons (pv 1) pa_nil))))
      (pss_one (ps_expr (pe_meth (pv 0) T.clB G_end.m G_end.ok (hr.mono (by decide)) G_end.b .nil pass0 (pa_cons (pv 1) (pa_cons (pg_int rfl T.c_NOT_TRADED) pa_nil)))))))), ?_⟩

  obtain ⟨L, m, es, r, rfl, B, ⟨dr, hr⟩, out, hk, hz, hm, kk⟩ := h
  rw [show L2.start ["self", "order"] [V.ref L.bk, V.ref r.a] = [some (.ref L.bk), some (.ref r.a)] from rfl]
  obtain ⟨dx, hb⟩ := B.ob
  have em : r.w.m = (r.o.amount : Int) := rfl
  have ek : r.w.k = (r.k : Int) := rfl
  simp only [cxOf, Cx.nox, tSeq, tNext, tRet, tRetN, tDrop, tIfS, tVar, tC, tOp, tUn, tTest, tB, tAnd, tOr, tNot, tAndV, tOrV, tNotV, tIf, tFld, sFld, sFldAug, tAsg, gName, tAug, tCons, tNil, tCB, tCall, tMeth, tChain, sDPut, tDGet, tDIn, tDNotIn, tDGet1, tDPop1, tBM, tBM0, tLst, tTup, tDNewK, rI0, rI, CDiv, rU, L2.rAdd, L2.rSub, ipI, List.getElem?_cons_zero, List.getElem?_cons_succ, List.set_cons_zero, List.set_cons_succ, Option.some.injEq, exists_eq_left', exists_eq_left, V.ref.injEq, V.int.injEq, V.bl.injEq, HO.ins.injEq, HO.lst.injEq, HO.dK.injEq, HO.tup.injEq, and_assoc, true_and, and_true, exists_and_left, List.cons.injEq, List.append_nil, List.cons_append, List.nil_append, x_eq, x_ne, oF_inj, if_true, if_false, Bool.false_eq_true, ite_true, ite_false, eq_self_iff_true, T.clO, T.nO_number, T.nO_who, T.nO_side, T.nO_kind, T.nO_price, T.nO_amount, T.nO_trigger, oF_number, oF_who, oF_side, oF_kind, oF_price, oF_amount, oF_trigger, oF_put_number, oF_put_who, oF_put_side, oF_put_kind, oF_put_price, oF_put_amount, oF_put_trigger, T.clB, T.nB_lines, T.nB_waiting, T.nB_known, T.nB_latest, T.nB_in_auction, T.nB_events, bF_lines, bF_waiting, bF_known, bF_latest, bF_in_auction, bF_events, bF_put_latest, bF_put_in_auction, bF_put_events, hb, hr, em, ek, bF_no_rest, bF_no_end]
  unfold settleM at kk
  by_cases c : r.o.amount = 0
  · rw [if_pos c] at kk
    rw [decide_eq_true (by omega)]
    refine iteT (kk H ?_ (Fr.refl _ H))
    rw [show es ++ flat [] = es from List.append_nil _]
    exact B
  rw [if_neg c] at kk
  rw [decide_eq_false (by omega)]
  refine iteF ?_
  have rest : r.o.kind = 0 ∨ r.o.kind = 4 → spRest K CO CB [V.ref L.bk, V.ref r.a] H (fun x H1 => Q V.non H1) E0 := fun c2 => by
    rw [if_pos c2] at kk
    refine ⟨L, m, es, zeroK r, rfl, B, ⟨dr, hr⟩, ⟨out.a, out.id⟩, by show r.k = 0 ∨ r.k = 4; omega, hz, hm, fun H' B' f => kk H' B' (f.mono fun b hb => .inl ?_)⟩
    simp only [List.mem_cons, List.not_mem_nil, or_false] at hb ⊢
    rcases hb with h | h | h
    · rw [h]
      unfold Lay.side
      split
      · exact .inl rfl
      · exact .inr (.inl rfl)
    · exact .inr (.inr (.inl h))
    · exact .inr (.inr (.inr h))
  by_cases c1 : r.o.kind = 0
  · rw [decide_eq_true (by omega)]
    exact iteT (rest (.inl c1))
  rw [decide_eq_false (by omega)]
  refine iteF ?_
  by_cases c2 : r.o.kind = 4
  · rw [decide_eq_true (by omega)]
    exact iteT (rest (.inr c2))
  · rw [decide_eq_false (by omega)]
    rw [if_neg (by omega)] at kk
    refine iteF ⟨L, m, es, r.a, r.w, 2, rfl, B, ⟨dr, hr⟩, hz, fun H' B' f => kk H' B' (f.mono fun b hb => .inl ?_)⟩
    rw [List.mem_singleton.mp hb]
    simp
def spCome (K : PySem.W.Frag) (CO CB : Addr) : Sp := fun vs H Q _ => ∃ (L : Lay) (m : M) (es : List Int) (r : R), vs = [.ref L.bk, .ref r.a] ∧ BkAt CO CB L H m es ∧ OAt CO H r.a r.w ∧ Out r m ∧ r.k = r.o.kind ∧ (es ++ flat (comeM r m).2).length ≤ 10000000 ∧ m.all.length ≤ 100000 ∧
  ∀ H', BkAt CO CB L H' (comeM r m).1 (es ++ flat (comeM r m).2) → Fr (r.a :: foot L m) H H' → Q .non H'
theorem ln_Book_come {vs : List V} {H : Hp} {Q : VK} {E : XK} (h : spCome K CO CB vs H Q E) : vs.length = 2 := by
  obtain ⟨L, m, es, r, rfl, _⟩ := h
  rfl
theorem ok_Book_come {f : Addr} {fd : FuncData} (F : Fun K "come" "Book.come" s_Book_come f fd) (T : Txt K mg CO CB) {f_Book_offered_by_others : Addr} {d_Book_offered_by_others : FuncData} (G_offered_by_others : Gm P w K mg base 2 CB "offered_by_others" f_Book_offered_by_others d_Book_offered_by_others ["self", "order"] (spOfferedByOthers K CO CB)) {f_Book_end : Addr} {d_Book_end : FuncData} (G_end : Gm P w K mg base 2 CB "end" f_Book_end d_Book_end ["self", "order", "why"] (spEnd K CO CB)) {f_Book_can_trade : Addr} {d_Book_can_trade : FuncData} (G_can_trade : Gm P w K mg base 2 CB "can_trade" f_Book_can_trade d_Book_can_trade ["self", "order"] (spCanTrade K CO CB)) {f_Book_trade : Addr} {d_Book_trade : FuncData} (G_trade : Gm P w K mg base 4 CB "trade" f_Book_trade d_Book_trade ["self", "order"] (spTrade K CO CB)) {f_Book_settle : Addr} {d_Book_settle : FuncData} (G_settle : Gm P w K mg base 4 CB "settle" f_Book_settle d_Book_settle ["self", "order"] (spSettle K CO CB)) : FnOk P w K mg base CX0 5 f fd ["self", "order"] (spCome K CO CB) := by
  refine F.ok sc_Book_come (fun vs H Q E h => ln_Book_come h) (fun cdv A outer s H vs Q E hr h => ?_)
  have hu := hu_of hr
  refine ⟨_, (pss_one (ps_if (PW.pt (pw_and (pt_cmpR op_eq (pe_fld (pv 1) rfl) (pg_int rfl T.c_ALL_AT_ONCE) (nomark _)) (pw_and1 (pt_cmpR op_lt (pe_meth (pv 0) T.clB G_offered_by_others.m G_offered_by_others.ok (hr.mono (by decide)) G_offered_by_others.b .nil pass0 (pa_cons (pv 1) pa_nil)) (pe_fld (pv 1) rfl) (nomark _)))))
      (pss_one (ps_expr (pe_meth (pv 0) T.clB G_end.m G_end.ok (hr.mono (by decide)) G_end.b .nil pass0 (pa_cons (pv 1) (pa_cons (pg_int rfl T.c_TOO_LITTLE) pa_nil)))))
      (pss_one (ps_if (PW.pt (pw_and (pt_cmpR op_eq (pe_fld (pv 1) rfl) (pg_int rfl T.c_ONLY_TO_REST) (nomark _)) (pw_and1 (pt_val (pe_meth (pv 0) T.clB G_can_trade.m G_can_trade.ok (hr.mono (by decide)) G_can_trade.b .nil pass0 (pa_cons (pv 1) pa_nil))))))
          (pss_one (ps_expr (pe_meth (pv 0) T.clB G_end.m G_end.ok (hr.mono (by decide)) G_end.b .nil pass0 (pa_cons (pv 1) (pa_cons (pg_int rfl T.c_WOULD_TRADE) pa_nil)))))
          (pss_cons (ps_expr (pe_meth (pv 0) T.clB G_trade.m G_trade.ok (hr.mono (by decide)) G_trade.b .nil pass0 (pa_cons (pv 1) pa_nil)))
            (pss_one (ps_expr (pe_meth (pv 0) T.clB G_settle.m G_settle.ok (hr.mono (by decide)) G_settle.b .nil pass0 (pa_cons (pv 1) pa_nil))))))))), ?_⟩

  obtain ⟨L, m, es, r, rfl, B, ⟨dr, hr⟩, out, hk, hz, hm, kk⟩ := h
  rw [show L2.start ["self", "order"] [V.ref L.bk, V.ref r.a] = [some (.ref L.bk), some (.ref r.a)] from rfl]
  obtain ⟨dx, hb⟩ := B.ob
  have em : r.w.m = (r.o.amount : Int) := rfl
  have ek : r.w.k = (r.k : Int) := rfl
  simp only [cxOf, Cx.nox, tSeq, tNext, tRet, tRetN, tDrop, tIfS, tVar, tC, tOp, tUn, tTest, tB, tAnd, tOr, tNot, tAndV, tOrV, tNotV, tIf, tFld, sFld, sFldAug, tAsg, gName, tAug, tCons, tNil, tCB, tCall, tMeth, tChain, sDPut, tDGet, tDIn, tDNotIn, tDGet1, tDPop1, tBM, tBM0, tLst, tTup, tDNewK, rI0, rI, CDiv, rU, L2.rAdd, L2.rSub, ipI, List.getElem?_cons_zero, List.getElem?_cons_succ, List.set_cons_zero, List.set_cons_succ, Option.some.injEq, exists_eq_left', exists_eq_left, V.ref.injEq, V.int.injEq, V.bl.injEq, HO.ins.injEq, HO.lst.injEq, HO.dK.injEq, HO.tup.injEq, and_assoc, true_and, and_true, exists_and_left, List.cons.injEq, List.append_nil, List.cons_append, List.nil_append, x_eq, x_ne, oF_inj, if_true, if_false, Bool.false_eq_true, ite_true, ite_false, eq_self_iff_true, T.clO, T.nO_number, T.nO_who, T.nO_side, T.nO_kind, T.nO_price, T.nO_amount, T.nO_trigger, oF_number, oF_who, oF_side, oF_kind, oF_price, oF_amount, oF_trigger, oF_put_number, oF_put_who, oF_put_side, oF_put_kind, oF_put_price, oF_put_amount, oF_put_trigger, T.clB, T.nB_lines, T.nB_waiting, T.nB_known, T.nB_latest, T.nB_in_auction, T.nB_events, bF_lines, bF_waiting, bF_known, bF_latest, bF_in_auction, bF_events, bF_put_latest, bF_put_in_auction, bF_put_events, hb, hr, em, ek, bF_no_offered_by_others, bF_no_can_trade, bF_no_end, bF_no_trade]
  have tr : ¬ (r.o.kind = 3 ∧ readyM r (m.side (!r.o.buy)) < r.o.amount) → ¬ (r.o.kind = 4 ∧ headTakes r (m.side (!r.o.buy)) = true) → ∀ H1, Fr [] H H1 →
      spTrade K CO CB [V.ref L.bk, V.ref r.a] H1 (fun x H1 => ∃ x x_2, H1 L.bk = some (HO.ins CB x x_2) ∧ List.lookup ("settle" : Str) x_2 = none ∧ spSettle K CO CB [V.ref L.bk, V.ref r.a] H1 (fun x H1 => Q V.non H1) E0) E0 := fun n3 n4 H1 f1 => by
    have ec : comeM r m = ((settleM (tradeM r m).1 (tradeM r m).2.1).1, (tradeM r m).2.2 ++ (settleM (tradeM r m).1 (tradeM r m).2.1).2) := by
      unfold comeM
      rw [if_neg n3, if_neg n4]
    rw [ec] at kk hz
    have hz1 : (es ++ flat (tradeM r m).2.2).length ≤ 10000000 := by
      rw [flat_app, ← List.append_assoc, List.length_append] at hz
      omega
    refine ⟨L, m, es, r, rfl, B.keep0 f1, ⟨dr, fr_nil f1 hr⟩, out, hk, hz1, fun H2 B2 o2 sub2 f2 => ?_⟩
    obtain ⟨dx2, hb2⟩ := B2.ob
    obtain ⟨s1, s2, s3, s4⟩ := trd_same (m.side (!r.o.buy)) r m.last
    have s1 : (tradeM r m).1.a = r.a := s1
    have s2 : (tradeM r m).1.k = r.k := s2
    have s5 : (tradeM r m).1.o.id = r.o.id := by
      show (trd r (m.side (!r.o.buy)) m.last).1.o.id = r.o.id
      rw [s4]
    have s6 : (tradeM r m).1.o.kind = r.o.kind := by
      show (trd r (m.side (!r.o.buy)) m.last).1.o.kind = r.o.kind
      rw [s4]
    have out2 := sub2.out out
    refine ⟨dx2, _, hb2, bF_no_settle _ _ _, L, _, _, (tradeM r m).1, by rw [s1], B2, by rw [s1]; exact o2, ⟨by rw [s1]; exact out2.a, by rw [s5]; exact out2.id⟩, by rw [s2, s6]; exact hk, hz1, Nat.le_trans (trade_len r m) hm, fun H3 B3 f3 => kk H3 ?_ ?_⟩
    · rw [flat_app, ← List.append_assoc]
      exact B3
    · refine (f1.trans f2 (fun b hb => nomatch hb) (fun b hb => .inl hb)).trans f3 (fun b hb => .inl hb) fun b hb => .inl (List.mem_cons_of_mem _ (foot_own ?_))
      simp only [List.mem_cons, List.not_mem_nil, or_false] at hb
      rcases hb with h | h | h | h
      · exact .inr (.inl h)
      · exact .inr (.inr (.inl h))
      · exact .inr (.inr (.inr (.inr (.inl h))))
      · exact .inr (.inr (.inr (.inr (.inr h))))
  have en : ∀ (y : Nat), comeM r m = (m, [.ended r.o.id y r.o.price r.o.amount]) → ∀ H1, Fr [] H H1 → spEnd K CO CB [V.ref L.bk, V.ref r.a, V.int (y : Int)] H1 (fun x H1 => Q V.non H1) E0 := fun y ec H1 f1 => by
    rw [ec] at kk hz
    refine ⟨L, m, es, r.a, r.w, y, rfl, B.keep0 f1, ⟨dr, fr_nil f1 hr⟩, ?_, fun H2 B2 f2 => kk H2 B2 ?_⟩
    · rw [List.length_append] at hz
      omega
    · refine f1.trans f2 (fun b hb => nomatch hb) fun b hb => .inl (List.mem_cons_of_mem _ (foot_own ?_))
      rw [List.mem_singleton.mp hb]
      exact .inr (.inr (.inr (.inr (.inr rfl))))
  by_cases c3 : r.o.kind = 3
  · rw [decide_eq_true (by omega)]
    refine iteT ⟨L, m, es, r, rfl, B, ⟨dr, hr⟩, hk, hm, fun H1 f1 => ?_⟩
    have hr1 := fr_nil f1 hr
    have hb1 := fr_nil f1 hb
    simp only [cxOf, Cx.nox, tSeq, tNext, tRet, tRetN, tDrop, tIfS, tVar, tC, tOp, tUn, tTest, tB, tAnd, tOr, tNot, tAndV, tOrV, tNotV, tIf, tFld, sFld, sFldAug, tAsg, gName, tAug, tCons, tNil, tCB, tCall, tMeth, tChain, sDPut, tDGet, tDIn, tDNotIn, tDGet1, tDPop1, tBM, tBM0, tLst, tTup, tDNewK, rI0, rI, CDiv, rU, L2.rAdd, L2.rSub, ipI, List.getElem?_cons_zero, List.getElem?_cons_succ, List.set_cons_zero, List.set_cons_succ, Option.some.injEq, exists_eq_left', exists_eq_left, V.ref.injEq, V.int.injEq, V.bl.injEq, HO.ins.injEq, HO.lst.injEq, HO.dK.injEq, HO.tup.injEq, and_assoc, true_and, and_true, exists_and_left, List.cons.injEq, List.append_nil, List.cons_append, List.nil_append, x_eq, x_ne, oF_inj, if_true, if_false, Bool.false_eq_true, ite_true, ite_false, eq_self_iff_true, T.clO, T.nO_number, T.nO_who, T.nO_side, T.nO_kind, T.nO_price, T.nO_amount, T.nO_trigger, oF_number, oF_who, oF_side, oF_kind, oF_price, oF_amount, oF_trigger, oF_put_number, oF_put_who, oF_put_side, oF_put_kind, oF_put_price, oF_put_amount, oF_put_trigger, T.clB, T.nB_lines, T.nB_waiting, T.nB_known, T.nB_latest, T.nB_in_auction, T.nB_events, bF_lines, bF_waiting, bF_known, bF_latest, bF_in_auction, bF_events, bF_put_latest, bF_put_in_auction, bF_put_events, hb1, hr1, em, ek, bF_no_end, bF_no_can_trade, bF_no_trade]
    by_cases c : readyM r (m.side (!r.o.buy)) < r.o.amount
    · rw [decide_eq_true (by omega)]
      refine iteT ?_
      exact en 3 (by unfold comeM; rw [if_pos ⟨c3, c⟩]) H1 f1
    · rw [decide_eq_false (by omega)]
      refine iteF ?_
      rw [decide_eq_false (by omega)]
      refine iteF ?_
      exact tr (fun z => c z.2) (fun z => by omega) H1 f1
  rw [decide_eq_false (by omega)]
  refine iteF ?_
  by_cases c4 : r.o.kind = 4
  · rw [decide_eq_true (by omega)]
    refine iteT ⟨L, m, es, r, rfl, B, ⟨dr, hr⟩, hk, ?_⟩
    cases eh : headTakes r (m.side (!r.o.buy)) with
    | true =>
      refine ⟨true, rfl, iteT ⟨dx, _, hb, bF_no_end _ _ _, ?_⟩⟩
      exact en 4 (by unfold comeM; rw [if_neg (fun z => c3 z.1), if_pos ⟨c4, eh⟩]) H (Fr.refl _ H)
    | false =>
      refine ⟨false, rfl, iteF ⟨dx, _, hb, bF_no_trade _ _ _, ?_⟩⟩
      exact tr (fun z => c3 z.1) (fun z => by rw [eh] at z; exact Bool.false_ne_true z.2) H (Fr.refl _ H)
  · rw [decide_eq_false (by omega)]
    refine iteF ?_
    exact tr (fun z => c3 z.1) (fun z => c4 z.1) H (Fr.refl _ H)
end
end SB
namespace SB
open PySem PySem.Spec PyProof.Rows L2
section
/-! ### the stops that are triggered are taken out one by one -/
def delAll (l : List R) (m : M) : M := l.foldl (fun m r => delM r.o.id m) m
theorem delAll_snoc (l : List R) (r : R) (m : M) : delAll (l ++ [r]) m = delM r.o.id (delAll l m) := by
  unfold delAll
  rw [List.foldl_append]
  rfl
def notOf (l : List R) (r : R) : Bool := !(l.any fun x => x.o.id == r.o.id)
theorem delAll_eq : ∀ (l : List R) (m : M), delAll l m = { m with buys := m.buys.filter (notOf l), sells := m.sells.filter (notOf l), waits := m.waits.filter (notOf l) }
  | [], m => by
    have e : ∀ l : List R, l.filter (notOf []) = l := fun l => filter_all fun _ _ => rfl
    show m = M.mk _ _ _ _ _
    rw [e, e, e]
  | x :: l, m => by
    have ih := delAll_eq l (delM x.o.id m)
    have e : ∀ q : List R, (q.filter fun r => r.o.id != x.o.id).filter (notOf l) = q.filter (notOf (x :: l)) := fun q => by
      rw [List.filter_filter]
      refine List.filter_congr fun r _ => ?_
      unfold notOf
      rw [List.any_cons, Bool.not_or, Bool.and_comm]
      congr 1
      rw [Bool.eq_iff_iff]
      simp
      exact ⟨fun h z => h z.symm, fun h z => h z.symm⟩
    show delAll l (delM x.o.id m) = _
    rw [ih]
    show M.mk _ _ _ _ _ = M.mk _ _ _ _ _
    rw [← e, ← e, ← e]
    rfl
theorem delAll_ok (l : List R) {m : M} (h : MOk m) : MOk (delAll l m) := by
  unfold delAll
  induction l generalizing m with
  | nil => exact h
  | cons x l ih => exact ih (h.del x.o.id)
theorem delAll_mem {l : List R} {m : M} {r : R} : r ∈ (delAll l m).all ↔ r ∈ m.all ∧ ∀ x ∈ l, x.o.id ≠ r.o.id := by
  rw [delAll_eq, mem_all, mem_all]
  have e : ∀ q : List R, r ∈ q.filter (notOf l) ↔ r ∈ q ∧ ∀ x ∈ l, x.o.id ≠ r.o.id := fun q => by
    rw [List.mem_filter]
    unfold notOf
    simp
  show r ∈ m.buys.filter _ ∨ r ∈ m.sells.filter _ ∨ r ∈ m.waits.filter _ ↔ _
  rw [e, e, e]
  constructor
  · rintro (h | h | h)
    · exact ⟨.inl h.1, h.2⟩
    · exact ⟨.inr (.inl h.1), h.2⟩
    · exact ⟨.inr (.inr h.1), h.2⟩
  · rintro ⟨h | h | h, h2⟩
    · exact .inl ⟨h, h2⟩
    · exact .inr (.inl ⟨h, h2⟩)
    · exact .inr (.inr ⟨h, h2⟩)
theorem delAll_sub (l : List R) (m : M) : Sub (delAll l m) m := fun x hx => ⟨x, (delAll_mem.mp hx).1, rfl, rfl⟩
theorem now_mem {m : M} {r : R} (h : r ∈ nowM m) : r ∈ m.waits := (List.mem_filter.mp h).1
theorem now_all {m : M} {r : R} (h : r ∈ nowM m) : r ∈ m.all := mem_all.mpr (.inr (.inr (now_mem h)))
theorem delAll_now {m : M} (h : MOk m) : delAll (nowM m) m = offM m := by
  obtain ⟨n1, n2, n3, a1, a2, a3⟩ := nodup_parts h
  rw [delAll_eq]
  have e1 : m.buys.filter (notOf (nowM m)) = m.buys := filter_all fun r hr => by
    unfold notOf
    rw [Bool.not_eq_true', List.any_eq_false]
    intro x hx
    have := a2 r hr x (now_mem hx)
    simp
    exact fun z => this z.symm
  have e2 : m.sells.filter (notOf (nowM m)) = m.sells := filter_all fun r hr => by
    unfold notOf
    rw [Bool.not_eq_true', List.any_eq_false]
    intro x hx
    have := a3 r hr x (now_mem hx)
    simp
    exact fun z => this z.symm
  have e3 : m.waits.filter (notOf (nowM m)) = m.waits.filter fun r => !Sd17.pulls r.o m.last := List.filter_congr fun r hr => by
    unfold notOf
    congr 1
    rw [Bool.eq_iff_iff, List.any_eq_true]
    constructor
    · rintro ⟨x, hx, e⟩
      have : x = r := nodup_inj n3 (now_mem hx) hr (by simpa using e)
      rw [← this]
      exact (List.mem_filter.mp hx).2
    · intro e
      exact ⟨r, List.mem_filter.mpr ⟨hr, e⟩, by simp⟩
  show M.mk _ _ _ _ _ = M.mk _ _ _ _ _
  rw [e1, e2, e3]
theorem off_mem {m : M} (h : MOk m) {x : R} (hx : x ∈ (offM m).all) : x ∈ m.all ∧ ∀ r ∈ nowM m, r.o.id ≠ x.o.id := by
  rw [← delAll_now h] at hx
  exact delAll_mem.mp hx
theorem off_sub (m : M) : Sub (offM m) m := fun x hx => by
  rcases mem_all.mp hx with h | h | h
  · exact ⟨x, mem_all.mpr (.inl h), rfl, rfl⟩
  · exact ⟨x, mem_all.mpr (.inr (.inl h)), rfl, rfl⟩
  · exact ⟨x, mem_all.mpr (.inr (.inr (List.mem_filter.mp h).1)), rfl, rfl⟩
theorem now_off_len (m : M) : (nowM m).length + (offM m).all.length = m.all.length := by
  have e : (nowM m).length + (offM m).waits.length = m.waits.length := by
    unfold nowM offM
    show (m.waits.filter _).length + (m.waits.filter _).length = _
    generalize m.waits = l
    induction l with
    | nil => rfl
    | cons a l ih =>
      by_cases c : Sd17.pulls a.o m.last = true
      · rw [List.filter_cons_of_pos (p := fun r : R => Sd17.pulls r.o m.last) c, List.filter_cons_of_neg (p := fun r : R => !Sd17.pulls r.o m.last) (by simp [c]), List.length_cons, List.length_cons]
        omega
      · rw [List.filter_cons_of_neg (p := fun r : R => Sd17.pulls r.o m.last) c, List.filter_cons_of_pos (p := fun r : R => !Sd17.pulls r.o m.last) (by simp [c]), List.length_cons, List.length_cons]
        omega
  have e2 : (offM m).all.length = m.buys.length + m.sells.length + (offM m).waits.length := by
    unfold M.all
    rw [List.length_append, List.length_append]
    rfl
  unfold M.all at e2 ⊢
  rw [List.length_append, List.length_append] at e2 ⊢
  rw [List.length_append, List.length_append]
  show (nowM m).length + (m.buys.length + m.sells.length + (offM m).waits.length) = _
  omega
end
section
variable {P : Program} {w : World} {K : PySem.W.Frag} {mg : Str → Option Value} {base : Heap} {CO CB : Addr}
theorem trig_eq {m : M} (h : MOk m) {r : R} (hr : r ∈ m.waits) : trigW r.w (m.last : Int) = Sd17.pulls r.o m.last := by
  obtain ⟨_, _, ht⟩ := h.w r hr
  unfold trigW Sd17.pulls
  show (if (m.last : Int) = 0 then false else if (if r.o.buy = true then (0 : Int) else 1) = 0 then decide (r.t ≤ (m.last : Int)) else decide ((m.last : Int) ≤ r.t)) = _
  rw [ht]
  by_cases c : m.last = 0
  · rw [if_pos (by omega)]
    simp [c]
  · rw [if_neg (by omega)]
    cases r.o.buy <;> simp [c]
/-- a list that is none of the book's own -/
structure Lo (L : Lay) (p : Addr) : Prop where
  lb : p ≠ L.lb
  ls : p ≠ L.ls
  wl : p ≠ L.wl
  ev : p ≠ L.ev
theorem BkAt.apartL {L : Lay} {H : Hp} {m : M} {es : List Int} (h : BkAt CO CB L H m es) {p : Addr} {xs : List V} (hp : H p = some (.lst xs)) (lo : Lo L p) : p ≠ L.bk ∧ p ≠ L.tl ∧ p ≠ L.kd ∧ p ∉ foot L m := by
  obtain ⟨dx, ob⟩ := h.ob
  obtain ⟨kvs, kd, _⟩ := h.kd
  have e1 : p ≠ L.bk := ne_of hp ob (by intro e; cases e)
  have e2 : p ≠ L.tl := ne_of hp h.tl (by intro e; cases e)
  have e3 : p ≠ L.kd := ne_of hp kd (by intro e; cases e)
  refine ⟨e1, e2, e3, fun hm => ?_⟩
  unfold foot at hm
  rcases List.mem_append.mp hm with hm | hm
  · simp only [List.mem_cons, List.not_mem_nil, or_false] at hm
    rcases hm with h | h | h | h | h | h
    · exact e1 h
    · exact lo.lb h
    · exact lo.ls h
    · exact lo.wl h
    · exact e3 h
    · exact lo.ev h
  · obtain ⟨r, hr, e⟩ := List.mem_map.mp hm
    obtain ⟨dr, er⟩ := h.od r hr
    exact ne_of hp er (by intro e; cases e) e.symm
theorem BkAt.newLo {L : Lay} {H : Hp} {m : M} {es : List Int} (h : BkAt CO CB L H m es) {p : Addr} (hp : H p = none) : Lo L p :=
  ⟨(ne_of_none h.lb hp).symm, (ne_of_none h.ls hp).symm, (ne_of_none h.wl hp).symm, (ne_of_none h.ev hp).symm⟩
/-- an outside list changes -/
theorem BkAt.keepL {L : Lay} {H H' : Hp} {m : M} {es : List Int} {p : Addr} {xs : List V} (h : BkAt CO CB L H m es) (hp : H p = some (.lst xs)) (lo : Lo L p) (f : Fr [p] H H') : BkAt CO CB L H' m es := by
  obtain ⟨e1, e2, e3, e4⟩ := h.apartL hp lo
  refine h.keep f fun b hb => ?_
  rw [List.mem_singleton.mp hb]
  exact ⟨⟨e1, e2, lo.lb, lo.ls, lo.wl, e3, lo.ev⟩, fun r hr e => e4 (e ▸ foot_od hr)⟩
def spTakeTriggered (K : PySem.W.Frag) (CO CB : Addr) : Sp := fun vs H Q _ => ∃ (L : Lay) (m : M) (es : List Int), vs = [.ref L.bk] ∧ BkAt CO CB L H m es ∧ m.all.length ≤ 100000 ∧ (es ++ flat (trigE m)).length ≤ 10000000 ∧
  ∀ H' p, H p = none → BkAt CO CB L H' (offM m) (es ++ flat (trigE m)) → H' p = some (.lst (((nowM m).map wake).map R.v)) → (∀ r ∈ (nowM m).map wake, OAt CO H' r.a r.w) → Fr (foot L m) H H' → Q (.ref p) H'
theorem ln_Book_take_triggered {vs : List V} {H : Hp} {Q : VK} {E : XK} (h : spTakeTriggered K CO CB vs H Q E) : vs.length = 1 := by
  obtain ⟨L, m, es, rfl, _⟩ := h
  rfl
theorem wake_v (l : List R) : (l.map wake).map R.v = l.map R.v := by
  rw [List.map_map]
  rfl
/-- behind i of the stops found -/
def wTrig (L : Lay) (m : M) (es : List Int) (H : Hp) (D : Addr) (CO CB : Addr) (i : Nat) (σ : L2.St) (H' : Hp) : Prop := ∃ v : Option V, σ = [some (.ref L.bk), v, some (.ref D)] ∧ BkAt CO CB L H' (delAll ((nowM m).take i) m) (es ++ flat (((nowM m).take i).map fun r => Sd17.Ev.triggered r.o.id m.last)) ∧
  H' D = some (.lst ((nowM m).map R.v)) ∧ (∀ r ∈ (nowM m).take i, OAt CO H' r.a (wake r).w) ∧ Fr (foot L m) H H'
theorem ok_Book_take_triggered {f : Addr} {fd : FuncData} (F : Fun K "take_triggered" "Book.take_triggered" s_Book_take_triggered f fd) (T : Txt K mg CO CB) {f_is_triggered : Addr} {d_is_triggered : FuncData} (G_is_triggered : Gd P w K mg base 1 "is_triggered" f_is_triggered d_is_triggered ["stop", "latest"] (spIsTriggered CO)) {f_Book_take_out : Addr} {d_Book_take_out : FuncData} (G_take_out : Gm P w K mg base 2 CB "take_out" f_Book_take_out d_Book_take_out ["self", "order"] (spTakeOut K CO CB)) {f_Book_tell : Addr} {d_Book_tell : FuncData} (G_tell : Gm P w K mg base 1 CB "tell" f_Book_tell d_Book_tell ["self", "event", "number", "other", "price", "amount", "left"] (spTell K CO CB)) : FnOk P w K mg base CX0 3 f fd ["self"] (spTakeTriggered K CO CB) := by
  refine F.ok sc_Book_take_triggered (fun vs H Q E h => ln_Book_take_triggered h) (fun cdv A outer s H vs Q E hr h => ?_)
  have hu := hu_of hr
  refine ⟨_, (pss_cons (ps_setLc (i := 2) (own := [("stop", 1)]) (g := gName 1) (tt := (tB (tCall _ [] E0 (tCons (tVar 1) (tCons (tFld K (tVar 0) "latest") tNil))))) (te := (tVar 1)) rfl sc_Book_take_triggered.nd rfl rfl (sw_true rfl rfl rfl (by decide +kernel)) (pi_list (pe_fld (pv 0) rfl)) (blkOk_by (N := ["self", "stop", "found"]) (sc := defScope s_Book_take_triggered) (by decide +kernel)) (by exact fun _ _ _ _ _ => pg_name (i := 1) sc_Book_take_triggered.nd rfl (Or.inl rfl)) (by exact fun _ _ _ _ _ => (pts_one (pt_val (pe_call G_is_triggered.ok (hr.mono (by decide)) rfl G_is_triggered.mg G_is_triggered.kp G_is_triggered.b .nil pass0 (pa_cons (pv 1) (pa_cons (pe_fld (pv 0) rfl) pa_nil)))))) (by exact fun _ _ _ _ _ => (pv 1)))
    (pss_cons (ps_for PassesOwn.never rfl (pi_list (pv 2)) (pg_name (i := 1) sc_Book_take_triggered.nd rfl (Or.inl rfl))
      (pss_cons (ps_expr (pe_meth (pv 0) T.clB G_take_out.m G_take_out.ok (hr.mono (by decide)) G_take_out.b .nil pass0 (pa_cons (pv 1) pa_nil)))
        (pss_cons (ps_expr (pe_meth (pv 0) T.clB G_tell.m G_tell.ok (hr.mono (by decide)) G_tell.b .nil pass0 (pa_cons (pg_int rfl T.c_TRIGGERED) (pa_cons (pe_fld (pv 1) rfl) (pa_cons pe_int (pa_cons (pe_fld (pv 0) rfl) (pa_cons pe_int (pa_cons pe_int pa_nil))))))))
        (pss_one (ps_fld (pv 1) (pe_ifExp (pt_cmpR op_eq (pe_fld (pv 1) rfl) (pg_int rfl T.c_STOP) (nomark _)) (pg_int rfl T.c_MARKET) (pg_int rfl T.c_LIMIT)) rfl)))))
    (pss_one (ps_ret (pv 2))))), ?_⟩

  obtain ⟨L, m, es, rfl, B, hm, hz, kk⟩ := h
  rw [show L2.start ["self", "stop", "found"] [V.ref L.bk] = [some (.ref L.bk), none, none] from rfl]
  obtain ⟨dx, hb⟩ := B.ob
  have lw : m.waits.length ≤ m.all.length := by
    unfold M.all
    rw [List.length_append]
    omega
  refine ⟨.ref L.bk, rfl, L.bk, CB, dx, bF L m.last m.auc, .ref L.wl, rfl, hb, T.clB, T.nB_waiting, bF_waiting _ _ _, L.wl, rfl, ⟨_, SqL.of B.wl⟩, comp_list (rs := m.waits) (φ := R.v) (fun x => Sd17.pulls x.o m.last) R.v B.wl (by omega) (fun _ => rfl) (fun x hx H' f R hR => ?_) (fun x hx _ H' f R hR => ?_) fun D H1 hD f1 e1 => ?_⟩
  · obtain ⟨dx2, e⟩ := B.od x (mem_all.mpr (.inr (.inr hx)))
    have e := fr_nil f e
    have e2 := fr_nil f hb
    change tB (tCall (spIsTriggered CO) [] E0 (tCons (tVar 1) (tCons (tFld K (tVar 0) "latest") tNil))) [some (.ref L.bk), some (.ref x.a), none] H' R
    simp only [cxOf, Cx.nox, tSeq, tNext, tRet, tRetN, tDrop, tIfS, tVar, tC, tOp, tUn, tTest, tB, tAnd, tOr, tNot, tAndV, tOrV, tNotV, tIf, tFld, sFld, sFldAug, tAsg, gName, tAug, tCons, tNil, tCB, tCall, tMeth, tChain, sDPut, tDGet, tDIn, tDNotIn, tDGet1, tDPop1, tBM, tBM0, tLst, tTup, tDNewK, rI0, rI, CDiv, rU, L2.rAdd, L2.rSub, ipI, List.getElem?_cons_zero, List.getElem?_cons_succ, List.set_cons_zero, List.set_cons_succ, Option.some.injEq, exists_eq_left', exists_eq_left, V.ref.injEq, V.int.injEq, V.bl.injEq, HO.ins.injEq, HO.lst.injEq, HO.dK.injEq, HO.tup.injEq, and_assoc, true_and, and_true, exists_and_left, List.cons.injEq, List.append_nil, List.cons_append, List.nil_append, x_eq, x_ne, oF_inj, if_true, if_false, Bool.false_eq_true, ite_true, ite_false, eq_self_iff_true, T.clO, T.nO_number, T.nO_who, T.nO_side, T.nO_kind, T.nO_price, T.nO_amount, T.nO_trigger, oF_number, oF_who, oF_side, oF_kind, oF_price, oF_amount, oF_trigger, oF_put_number, oF_put_who, oF_put_side, oF_put_kind, oF_put_price, oF_put_amount, oF_put_trigger, T.clB, T.nB_lines, T.nB_waiting, T.nB_known, T.nB_latest, T.nB_in_auction, T.nB_events, bF_lines, bF_waiting, bF_known, bF_latest, bF_in_auction, bF_events, bF_put_latest, bF_put_in_auction, bF_put_events, e, e2, spIsTriggered]
    rw [trig_eq B.ok hx]
    exact hR
  · exact ⟨_, rfl, hR⟩
  · have e1 : H1 D = some (.lst ((nowM m).map R.v)) := e1
    have lo := B.newLo hD
    have B1 := B.keep0 f1
    change tSeq _ _ _ [some (.ref L.bk), none, some (.ref D)] H1
    have hno : (nowM m).length ≤ m.waits.length := List.length_filter_le _ _
    have ndn : ((nowM m).map fun r => r.o.id).Nodup := List.Sublist.nodup ((List.filter_sublist).map _) (nodup_parts B.ok).2.2.1
    have nda : ((nowM m).map fun r => r.a).Nodup := List.Sublist.nodup ((List.filter_sublist).map _) (addr_parts B.ok).2.2.1
    refine ⟨_, rfl, D, rfl, ⟨_, SqL.of e1⟩, for_list (K := K) (a := D) (xs := (nowM m).map R.v) (wTrig L m es H D CO CB) ⟨none, rfl, ?_, e1, fun r hr => (nomatch hr), ?_⟩ (fun i σ H' _ ⟨_, _, _, h, _⟩ => SqL.of h) (fun i y σ H' hi hp => ?_) fun σ H' hp => ?_⟩
    · rw [show es ++ flat (((nowM m).take 0).map fun r => Sd17.Ev.triggered r.o.id m.last) = es from List.append_nil _]
      exact B1
    · exact f1.mono fun b hb => nomatch hb
    · obtain ⟨v, rfl, B2, hD2, od2, f2⟩ := hp
      obtain ⟨x, hx, rfl⟩ : ∃ x, (nowM m)[i]? = some x ∧ R.v x = y := by
        rw [List.getElem?_map] at hi
        cases e : (nowM m)[i]? with
        | none =>
          rw [e] at hi
          cases hi
        | some x =>
          rw [e] at hi
          exact ⟨x, rfl, Option.some.inj hi⟩
      have hil := (List.getElem?_eq_some_iff.mp hx).1
      have hxm := List.mem_of_getElem? hx
      have et : (nowM m).take (i + 1) = (nowM m).take i ++ [x] := by
        rw [List.take_add_one, hx]
        rfl
      have xall := now_all hxm
      have xcur : x ∈ (delAll ((nowM m).take i) m).all := by
        refine delAll_mem.mpr ⟨xall, fun z hz e => ?_⟩
        obtain ⟨j, hj, ej⟩ := List.getElem_of_mem hz
        rw [List.length_take] at hj
        rw [List.getElem_take] at ej
        have hxe : (nowM m)[i] = x := (List.getElem?_eq_some_iff.mp hx).2
        have nd := ndn
        unfold List.Nodup at nd
        rw [List.pairwise_map, List.pairwise_iff_getElem] at nd
        have := nd j i (by omega) hil (by omega)
        rw [ej, hxe] at this
        exact this e
      obtain ⟨dx2, hb2⟩ := B2.ob
      obtain ⟨dr, hr2⟩ := B2.od x xcur
      have Ax := B2.ao ⟨dr, hr2⟩
      have AP := B2.ap
      have apD := B2.apartL hD2 lo
      simp only [cxOf, Cx.nox, tSeq, tNext, tRet, tRetN, tDrop, tIfS, tVar, tC, tOp, tUn, tTest, tB, tAnd, tOr, tNot, tAndV, tOrV, tNotV, tIf, tFld, sFld, sFldAug, tAsg, gName, tAug, tCons, tNil, tCB, tCall, tMeth, tChain, sDPut, tDGet, tDIn, tDNotIn, tDGet1, tDPop1, tBM, tBM0, tLst, tTup, tDNewK, rI0, rI, CDiv, rU, L2.rAdd, L2.rSub, ipI, List.getElem?_cons_zero, List.getElem?_cons_succ, List.set_cons_zero, List.set_cons_succ, Option.some.injEq, exists_eq_left', exists_eq_left, V.ref.injEq, V.int.injEq, V.bl.injEq, HO.ins.injEq, HO.lst.injEq, HO.dK.injEq, HO.tup.injEq, and_assoc, true_and, and_true, exists_and_left, List.cons.injEq, List.append_nil, List.cons_append, List.nil_append, x_eq, x_ne, oF_inj, if_true, if_false, Bool.false_eq_true, ite_true, ite_false, eq_self_iff_true, T.clO, T.nO_number, T.nO_who, T.nO_side, T.nO_kind, T.nO_price, T.nO_amount, T.nO_trigger, oF_number, oF_who, oF_side, oF_kind, oF_price, oF_amount, oF_trigger, oF_put_number, oF_put_who, oF_put_side, oF_put_kind, oF_put_price, oF_put_amount, oF_put_trigger, T.clB, T.nB_lines, T.nB_waiting, T.nB_known, T.nB_latest, T.nB_in_auction, T.nB_events, bF_lines, bF_waiting, bF_known, bF_latest, bF_in_auction, bF_events, bF_put_latest, bF_put_in_auction, bF_put_events, hb2, R.v, bF_no_take_out]
      refine ⟨L, _, _, x, rfl, B2, xcur, fun H3 B3 f3 => ?_⟩
      have f3' : ∀ {b : Addr} {o : HO}, H' b = some o → b ≠ L.lb → b ≠ L.ls → b ≠ L.wl → b ≠ L.kd → H3 b = some o := fun e h1 h2 h3 h4 => fr_at f3 e fun y hy => by
        simp only [List.mem_cons, List.not_mem_nil, or_false] at hy
        rcases hy with rfl | rfl | rfl | rfl
        · exact h1
        · exact h2
        · exact h3
        · exact h4
      have hr3 := f3' hr2 Ax.lb Ax.ls Ax.wl Ax.kd
      have hD3 := f3' hD2 lo.lb lo.ls lo.wl apD.2.2.1
      obtain ⟨dx3, hb3⟩ := B3.ob
      have el : (delM x.o.id (delAll ((nowM m).take i) m)).last = m.last := by
        rw [← delAll_snoc, delAll_eq]
      have evl : (es ++ flat (((nowM m).take i).map fun r => Sd17.Ev.triggered r.o.id m.last)).length ≤ 10000000 := by
        have h1 : (flat (((nowM m).take i).map fun r => Sd17.Ev.triggered r.o.id m.last)).length ≤ (flat (trigE m)).length := by
          unfold trigE
          rw [flat_len, flat_len, List.length_map, List.length_map, List.length_take]
          omega
        rw [List.length_append] at hz ⊢
        omega
      simp only [cxOf, Cx.nox, tSeq, tNext, tRet, tRetN, tDrop, tIfS, tVar, tC, tOp, tUn, tTest, tB, tAnd, tOr, tNot, tAndV, tOrV, tNotV, tIf, tFld, sFld, sFldAug, tAsg, gName, tAug, tCons, tNil, tCB, tCall, tMeth, tChain, sDPut, tDGet, tDIn, tDNotIn, tDGet1, tDPop1, tBM, tBM0, tLst, tTup, tDNewK, rI0, rI, CDiv, rU, L2.rAdd, L2.rSub, ipI, List.getElem?_cons_zero, List.getElem?_cons_succ, List.set_cons_zero, List.set_cons_succ, Option.some.injEq, exists_eq_left', exists_eq_left, V.ref.injEq, V.int.injEq, V.bl.injEq, HO.ins.injEq, HO.lst.injEq, HO.dK.injEq, HO.tup.injEq, and_assoc, true_and, and_true, exists_and_left, List.cons.injEq, List.append_nil, List.cons_append, List.nil_append, x_eq, x_ne, oF_inj, if_true, if_false, Bool.false_eq_true, ite_true, ite_false, eq_self_iff_true, T.clO, T.nO_number, T.nO_who, T.nO_side, T.nO_kind, T.nO_price, T.nO_amount, T.nO_trigger, oF_number, oF_who, oF_side, oF_kind, oF_price, oF_amount, oF_trigger, oF_put_number, oF_put_who, oF_put_side, oF_put_kind, oF_put_price, oF_put_amount, oF_put_trigger, T.clB, T.nB_lines, T.nB_waiting, T.nB_known, T.nB_latest, T.nB_in_auction, T.nB_events, bF_lines, bF_waiting, bF_known, bF_latest, bF_in_auction, bF_events, bF_put_latest, bF_put_in_auction, bF_put_events, hb3, hr3, bF_no_tell, el]
      refine ⟨L, dx3, _, _, _, _, _, _, _, _, _, rfl, hb3, B3.ev, evl, fun H4 e4 f4 => ?_⟩
      have B4 := B3.tell e4 f4
      have hr4 := fr_1 f4 hr3 Ax.ev
      have hD4 := fr_1 f4 hD3 lo.ev
      have ek : x.w.k = (x.o.kind : Int) := by
        have := (B.ok.w x (now_mem hxm)).2.1
        show (x.k : Int) = _
        omega
      simp only [cxOf, Cx.nox, tSeq, tNext, tRet, tRetN, tDrop, tIfS, tVar, tC, tOp, tUn, tTest, tB, tAnd, tOr, tNot, tAndV, tOrV, tNotV, tIf, tFld, sFld, sFldAug, tAsg, gName, tAug, tCons, tNil, tCB, tCall, tMeth, tChain, sDPut, tDGet, tDIn, tDNotIn, tDGet1, tDPop1, tBM, tBM0, tLst, tTup, tDNewK, rI0, rI, CDiv, rU, L2.rAdd, L2.rSub, ipI, List.getElem?_cons_zero, List.getElem?_cons_succ, List.set_cons_zero, List.set_cons_succ, Option.some.injEq, exists_eq_left', exists_eq_left, V.ref.injEq, V.int.injEq, V.bl.injEq, HO.ins.injEq, HO.lst.injEq, HO.dK.injEq, HO.tup.injEq, and_assoc, true_and, and_true, exists_and_left, List.cons.injEq, List.append_nil, List.cons_append, List.nil_append, x_eq, x_ne, oF_inj, if_true, if_false, Bool.false_eq_true, ite_true, ite_false, eq_self_iff_true, T.clO, T.nO_number, T.nO_who, T.nO_side, T.nO_kind, T.nO_price, T.nO_amount, T.nO_trigger, oF_number, oF_who, oF_side, oF_kind, oF_price, oF_amount, oF_trigger, oF_put_number, oF_put_who, oF_put_side, oF_put_kind, oF_put_price, oF_put_amount, oF_put_trigger, T.clB, T.nB_lines, T.nB_waiting, T.nB_known, T.nB_latest, T.nB_in_auction, T.nB_events, bF_lines, bF_waiting, bF_known, bF_latest, bF_in_auction, bF_events, bF_put_latest, bF_put_in_auction, bF_put_events, hr4, ek, oF_len]
      have ewk : ∀ c : Bool, c = decide ((x.o.kind : Int) = 5) → ({ x.w with k := if c = true then 1 else 0 } : W) = (wake x).w := fun c hc => by
        unfold wake R.w
        show W.mk _ _ _ _ _ _ _ = W.mk _ _ _ _ _ _ _
        congr 1
        rw [hc]
        by_cases c5 : x.o.kind = 5
        · rw [decide_eq_true (by omega), if_pos rfl, if_pos c5]
          rfl
        · rw [decide_eq_false (by omega), if_neg c5]
          rfl
      have fin : ∀ c : Bool, c = decide ((x.o.kind : Int) = 5) → wTrig L m es H D CO CB (i + 1) [some (V.ref L.bk), some (V.ref x.a), some (V.ref D)] (upd H4 x.a (.ins CO dr (oF { x.w with k := if c = true then 1 else 0 }))) := fun c hc => by
        rw [ewk c hc]
        have nout : x.a ∉ (delM x.o.id (delAll ((nowM m).take i) m)).all.map (·.a) := fun hmem => by
          obtain ⟨y, hy, e⟩ := List.mem_map.mp hmem
          rw [del_all] at hy
          obtain ⟨y1, y2⟩ := List.mem_filter.mp hy
          have : y = x := nodup_inj B2.ok.addr y1 xcur e
          rw [this] at y2
          simp at y2
        have B5 := B4.keepO ⟨dr, hr4⟩ nout (fr_upd (o := .ins CO dr (oF (wake x).w)))
        have nDx : D ≠ x.a := ne_of hD4 hr4 (by intro e; cases e)
        refine ⟨_, rfl, ?_, (upd_ne nDx).trans hD4, fun r hr => ?_, ?_⟩
        · rw [et, delAll_snoc, List.map_append, flat_app, ← List.append_assoc]
          exact B5
        · rw [et] at hr
          rcases List.mem_append.mp hr with h | h
          · obtain ⟨da, ea⟩ := od2 r h
            have nrx : r.a ≠ x.a := fun z => by
              obtain ⟨j, hj, ej⟩ := List.getElem_of_mem h
              rw [List.length_take] at hj
              rw [List.getElem_take] at ej
              have hxe : (nowM m)[i] = x := (List.getElem?_eq_some_iff.mp hx).2
              have nd := nda
              unfold List.Nodup at nd
              rw [List.pairwise_map, List.pairwise_iff_getElem] at nd
              have := nd j i (by omega) hil (by omega)
              rw [ej, hxe] at this
              exact this z
            have Ar := B2.ao ⟨da, ea⟩
            exact ⟨da, (upd_ne nrx).trans (fr_1 f4 (f3' ea Ar.lb Ar.ls Ar.wl Ar.kd) Ar.ev)⟩
          · rw [List.mem_singleton.mp h]
            exact ⟨dr, upd_same⟩
        · refine ((f2.trans f3 (fun b hb => .inl hb) fun b hb => .inl (foot_own ?_)).trans f4 (fun b hb => .inl hb) fun b hb => .inl (foot_own ?_)).trans (fr_upd (a := x.a)) (fun b hb => .inl hb) fun b hb => .inl ?_
          · simp only [List.mem_cons, List.not_mem_nil, or_false] at hb
            rcases hb with h | h | h | h
            · exact .inr (.inl h)
            · exact .inr (.inr (.inl h))
            · exact .inr (.inr (.inr (.inl h)))
            · exact .inr (.inr (.inr (.inr (.inl h))))
          · exact .inr (.inr (.inr (.inr (.inr (List.mem_singleton.mp hb)))))
          · rw [List.mem_singleton.mp hb]
            exact foot_od xall
      cases hc : decide ((x.o.kind : Int) = 5) with
      | true => exact iteT ⟨by decide, fin true hc.symm⟩
      | false => exact iteF ⟨by decide, fin false hc.symm⟩
    · obtain ⟨v, rfl, B2, hD2, od2, f2⟩ := hp
      rw [List.length_map, List.take_length] at B2 od2
      rw [delAll_now B.ok] at B2
      refine ⟨_, rfl, kk _ D hD B2 ?_ (fun r hr => ?_) f2⟩
      · rw [wake_v]
        exact hD2
      · obtain ⟨y, hy, rfl⟩ := List.mem_map.mp hr
        exact od2 y hy
end
end SB
namespace SB
open PySem PySem.Spec PyProof.Rows L2
section
variable {P : Program} {w : World} {K : PySem.W.Frag} {mg : Str → Option Value} {base : Heap} {CO CB : Addr}
/-! ### trigger_stops -/
/-- orders on their way: none of the book's, each another -/
structure Way (F : List R) (m : M) : Prop where
  out : ∀ r ∈ F, Out r m
  a : (F.map (·.a)).Nodup
  id : (F.map fun r => r.o.id).Nodup
  k : ∀ r ∈ F, r.k = r.o.kind
/-- all of them stood in m0 -/
def From (F : List R) (m0 : M) : Prop := ∀ r ∈ F, ∃ y ∈ m0.all, r.a = y.a ∧ r.o.id = y.o.id
theorem way_now {m : M} (h : MOk m) : Way ((nowM m).map wake) (offM m) := by
  have na : ((nowM m).map fun r => r.a).Nodup := List.Sublist.nodup ((List.filter_sublist).map _) (addr_parts h).2.2.1
  have ni : ((nowM m).map fun r => r.o.id).Nodup := List.Sublist.nodup ((List.filter_sublist).map _) (nodup_parts h).2.2.1
  refine ⟨fun r hr => ?_, ?_, ?_, fun r hr => ?_⟩
  · obtain ⟨x, hx, rfl⟩ := List.mem_map.mp hr
    refine ⟨fun hm => ?_, fun hm => ?_⟩
    · obtain ⟨y, hy, e⟩ := List.mem_map.mp hm
      obtain ⟨y1, y2⟩ := off_mem h hy
      have : y = x := nodup_inj h.addr y1 (now_all hx) e
      exact y2 x hx (by rw [this])
    · obtain ⟨y, hy, e⟩ := List.mem_map.mp hm
      obtain ⟨y1, y2⟩ := off_mem h hy
      exact y2 x hx e.symm
  · rw [List.map_map]
    exact na
  · rw [List.map_map]
    exact ni
  · obtain ⟨x, hx, rfl⟩ := List.mem_map.mp hr
    rfl
theorem from_now (m : M) : From ((nowM m).map wake) m := fun r hr => by
  obtain ⟨x, hx, rfl⟩ := List.mem_map.mp hr
  exact ⟨x, now_all hx, rfl, rfl⟩
structure Loop (L : Lay) (m0 : M) (es0 : List Int) (H0 : Hp) (CO CB : Addr) (p : Addr) (F : List R) (m : M) (pre : List Sd17.Ev) (k : Nat) (H' : Hp) : Prop where
  B : BkAt CO CB L H' m (es0 ++ flat pre)
  pl : H' p = some (.lst (F.map R.v))
  od : ∀ r ∈ F, OAt CO H' r.a r.w
  way : Way F m
  lo : Lo L p
  eq : stopsM m0 = ((loopM k F m).1, pre ++ (loopM k F m).2)
  k : F.length + m.waits.length ≤ k
  cnt : m.all.length + F.length ≤ 100000
  sub : Sub m m0
  fm : From F m0
  fr : Fr (foot L m0) H0 H'
def wLoop (L : Lay) (m0 : M) (es0 : List Int) (H0 : Hp) (CO CB : Addr) (p : Addr) (k : Nat) (σ : L2.St) (H' : Hp) : Prop := ∃ F m pre, σ = [some (.ref L.bk), some (.ref p)] ∧ Loop L m0 es0 H0 CO CB p F m pre k H'
def spTriggerStops (K : PySem.W.Frag) (CO CB : Addr) : Sp := fun vs H Q _ => ∃ (L : Lay) (m : M) (es : List Int), vs = [.ref L.bk] ∧ BkAt CO CB L H m es ∧ m.all.length ≤ 50000 ∧ (es ++ flat (stopsM m).2).length ≤ 10000000 ∧
  ∀ H', BkAt CO CB L H' (stopsM m).1 (es ++ flat (stopsM m).2) → Fr (foot L m) H H' → Q .non H'
theorem ln_Book_trigger_stops {vs : List V} {H : Hp} {Q : VK} {E : XK} (h : spTriggerStops K CO CB vs H Q E) : vs.length = 1 := by
  obtain ⟨L, m, es, rfl, _⟩ := h
  rfl
theorem seq0 {n : Nat} (h : 0 < n) : seqIndex? 0 n = some 0 := by
  have e : ixN n 0 = some 0 := by
    unfold ixN
    rw [if_pos (by decide), if_pos (by omega)]
    rfl
  exact (ixN_seq e).1
theorem ok_Book_trigger_stops {f : Addr} {fd : FuncData} (F : Fun K "trigger_stops" "Book.trigger_stops" s_Book_trigger_stops f fd) (T : Txt K mg CO CB) {f_Book_take_triggered : Addr} {d_Book_take_triggered : FuncData} (G_take_triggered : Gm P w K mg base 3 CB "take_triggered" f_Book_take_triggered d_Book_take_triggered ["self"] (spTakeTriggered K CO CB)) {f_Book_come : Addr} {d_Book_come : FuncData} (G_come : Gm P w K mg base 5 CB "come" f_Book_come d_Book_come ["self", "order"] (spCome K CO CB)) : FnOk P w K mg base CX0 6 f fd ["self"] (spTriggerStops K CO CB) := by
  refine F.ok sc_Book_trigger_stops (fun vs H Q E h => ln_Book_trigger_stops h) (fun cdv A outer s H vs Q E hr h => ?_)
  have hu := hu_of hr
  refine ⟨_, (pss_cons (ps_set (i := 1) sc_Book_trigger_stops.nd rfl (Or.inl rfl) (pe_meth0 (pv 0) T.clB G_take_triggered.m G_take_triggered.ok (hr.mono (by decide)) G_take_triggered.b .nil pass0))
    (pss_one (ps_while PassesOwn.never (pt_truth (pv 1) (by intro _; rfl))
      (pss_cons (ps_expr (pe_meth (pv 0) T.clB G_come.m G_come.ok (hr.mono (by decide)) G_come.b .nil pass0 (pa_cons (pe_bm PySem.F.plainAttrs_list PySem.F.slot_list_pop PySem.F.type_list_pop mt_popAt (pv 1) (pa_cons pe_int pa_nil)) pa_nil)))
        (pss_one (ps_expr (pe_bm PySem.F.plainAttrs_list PySem.F.slot_list_extend PySem.F.type_list_extend mt_extend (pv 1) (pa_cons (pe_meth0 (pv 0) T.clB G_take_triggered.m G_take_triggered.ok (hr.mono (by decide)) G_take_triggered.b .nil pass0) pa_nil)))))))), ?_⟩

  obtain ⟨L, m0, es0, rfl, B0, hm, hz, kk⟩ := h
  rw [show L2.start ["self", "found"] [V.ref L.bk] = [some (.ref L.bk), none] from rfl]
  obtain ⟨dx0, hb0⟩ := B0.ob
  refine ⟨.ref L.bk, rfl, L.bk, dx0, _, rfl, hb0, bF_no_take_triggered _ _ _, L, m0, es0, rfl, B0, by omega, ?_, fun H1 p hp B1 e1 od1 f1 => ?_⟩
  · unfold stopsM at hz
    rw [flat_app, ← List.append_assoc, List.length_append] at hz
    omega
  · have lw : (nowM m0).length + (offM m0).waits.length = m0.waits.length := by
      have h1 := now_off_len m0
      have h2 : (offM m0).all.length = m0.buys.length + m0.sells.length + (offM m0).waits.length := by
        unfold M.all
        rw [List.length_append, List.length_append]
        rfl
      unfold M.all at h1 h2
      rw [List.length_append, List.length_append] at h1 h2
      rw [List.length_append, List.length_append] at h1
      have h3 : (offM m0).buys.length = m0.buys.length := rfl
      have h4 : (offM m0).sells.length = m0.sells.length := rfl
      omega
    refine ⟨wLoop L m0 es0 H CO CB p, ⟨m0.waits.length, (nowM m0).map wake, offM m0, trigE m0, rfl, B1, e1, od1, way_now B0.ok, B0.newLo hp, rfl, ?_, ?_, off_sub m0, from_now m0, f1⟩, ?_⟩
    · rw [List.length_map]
      omega
    · have := now_off_len m0
      rw [List.length_map]
      omega
    · rintro k σ H2 ⟨F, m, pre, rfl, t⟩
      obtain ⟨B, hp2, od, way, lo, eq, hk, cnt, sub, fm, fr⟩ := id t
      refine ⟨_, rfl, !(F.map R.v).isEmpty, .inl ⟨_, SqL.of hp2, rfl⟩, ?_⟩
      cases F with
      | nil =>
        refine iteF ?_
        rw [loop_nil, List.append_nil] at eq
        rw [eq] at kk
        exact kk H2 B fr
      | cons r F =>
        refine iteT ⟨_, fun _ _ n => n, ?_⟩
        cases k with
        | zero =>
          rw [List.length_cons] at hk
          omega
        | succ k =>
          obtain ⟨dx, hb⟩ := B.ob
          have ap := B.apartL hp2 lo
          have tp := tyL (K := K) hp2
          have F2 : Fr [p] H2 (upd H2 p (.lst (F.map R.v))) := fr_upd
          have B2 := B.keepL hp2 lo F2
          have epop : ((r :: F).map R.v).eraseIdx 0 = F.map R.v := rfl
          have outr := way.out r (List.mem_cons_self ..)
          obtain ⟨dr, hr⟩ := od r (List.mem_cons_self ..)
          have nrp : r.a ≠ p := ne_of hr hp2 (by intro e; cases e)
          have a2 := List.nodup_cons.mp way.a
          have i2 := List.nodup_cons.mp way.id
          have eL : loopM (k + 1) (r :: F) m = ((loopM k (F ++ (nowM (comeM r m).1).map wake) (offM (comeM r m).1)).1, (comeM r m).2 ++ (trigE (comeM r m).1 ++ (loopM k (F ++ (nowM (comeM r m).1).map wake) (offM (comeM r m).1)).2)) := rfl
          rw [eL] at eq
          have ez : (stopsM m0).2 = pre ++ ((comeM r m).2 ++ (trigE (comeM r m).1 ++ (loopM k (F ++ (nowM (comeM r m).1).map wake) (offM (comeM r m).1)).2)) := by rw [eq]
          have hz1 : (es0 ++ flat pre ++ flat (comeM r m).2).length ≤ 10000000 ∧ (es0 ++ flat pre ++ flat (comeM r m).2 ++ flat (trigE (comeM r m).1)).length ≤ 10000000 := by
            rw [ez] at hz
            simp only [flat_app, List.length_append] at hz ⊢
            omega
          rw [List.length_cons] at cnt hk
          -- self.come(found.pop(0))
          refine ⟨.ref L.bk, rfl, L.bk, dx, _, rfl, hb, bF_no_come _ _ _, .ref p, rfl, tp, p, (r :: F).map R.v, 0, 0, r.v, rfl, rfl, hp2, by decide, by decide, seq0 (by simp), rfl, ?_⟩
          rw [epop]
          refine ⟨L, m, _, r, rfl, B2, ⟨dr, (upd_ne nrp).trans hr⟩, outr, way.k r (List.mem_cons_self ..), hz1.1, by omega, fun H3 B3 f3 => ?_⟩
          have hp2' : (upd H2 p (.lst (F.map R.v))) p = some (.lst (F.map R.v)) := upd_same
          have hp3 : H3 p = some (.lst (F.map R.v)) := fr_at f3 hp2' fun y hy e => by
            rcases List.mem_cons.mp hy with h | h
            · exact nrp.symm (e.trans h)
            · exact (B2.apartL hp2' lo).2.2.2 (e ▸ h)
          have od3 : ∀ x ∈ F, OAt CO H3 x.a x.w := fun x hx => by
            obtain ⟨da, ea⟩ := od x (List.mem_cons_of_mem _ hx)
            have nxp : x.a ≠ p := ne_of ea hp2 (by intro e; cases e)
            have ea2 : (upd H2 p (.lst (F.map R.v))) x.a = some (.ins CO da (oF x.w)) := (upd_ne nxp).trans ea
            have Ax := B.ao ⟨da, ea⟩
            refine ⟨da, fr_at f3 ea2 fun y hy e => ?_⟩
            rcases List.mem_cons.mp hy with h | h
            · exact a2.1 (List.mem_map.mpr ⟨x, hx, e.trans h⟩)
            · unfold foot at h
              rcases List.mem_append.mp h with h | h
              · simp only [List.mem_cons, List.not_mem_nil, or_false] at h
                rcases h with rfl | rfl | rfl | rfl | rfl | rfl
                · exact Ax.bk e
                · exact Ax.lb e
                · exact Ax.ls e
                · exact Ax.wl e
                · exact Ax.kd e
                · exact Ax.ev e
              · exact (way.out x (List.mem_cons_of_mem _ hx)).a (e ▸ h)
          have way3 : Way F (comeM r m).1 := by
            refine ⟨fun x hx => ⟨fun hm => ?_, fun hm => ?_⟩, a2.2, i2.2, fun x hx => way.k x (List.mem_cons_of_mem _ hx)⟩
            · obtain ⟨y, hy, e⟩ := List.mem_map.mp hm
              rcases come_sub r m y hy with ⟨z, hz, z1, z2⟩ | ⟨z1, z2⟩
              · exact (way.out x (List.mem_cons_of_mem _ hx)).a (List.mem_map.mpr ⟨z, hz, z1.symm.trans e⟩)
              · exact a2.1 (List.mem_map.mpr ⟨x, hx, e.symm.trans z1⟩)
            · obtain ⟨y, hy, e⟩ := List.mem_map.mp hm
              rcases come_sub r m y hy with ⟨z, hz, z1, z2⟩ | ⟨z1, z2⟩
              · exact (way.out x (List.mem_cons_of_mem _ hx)).id (List.mem_map.mpr ⟨z, hz, z2.symm.trans e⟩)
              · exact i2.1 (List.mem_map.mpr ⟨x, hx, e.symm.trans z2⟩)
          have sub3 : Sub (comeM r m).1 m0 := fun x hx => by
            rcases come_sub r m x hx with ⟨y, hy, e1, e2⟩ | ⟨e1, e2⟩
            · obtain ⟨z, hz, f1, f2⟩ := sub y hy
              exact ⟨z, hz, e1.trans f1, e2.trans f2⟩
            · obtain ⟨z, hz, f1, f2⟩ := fm r (List.mem_cons_self ..)
              exact ⟨z, hz, e1.trans f1, e2.trans f2⟩
          have cl := come_len r m
          -- found.extend(self.take_triggered())
          obtain ⟨dx3, hb3⟩ := B3.ob
          refine ⟨.ref p, rfl, tyL hp3, .ref L.bk, rfl, L.bk, dx3, _, rfl, hb3, bF_no_take_triggered _ _ _, L, _, _, rfl, B3, by omega, hz1.2, fun H4 q hq B4 e4 od4 f4 => ?_⟩
          have ap3 := B3.apartL hp3 lo
          have hp4 : H4 p = some (.lst (F.map R.v)) := fr_at f4 hp3 fun y hy e => ap3.2.2.2 (e ▸ hy)
          have npq : p ≠ q := ne_of_none hp3 hq
          have no := now_off_len (comeM r m).1
          refine ⟨p, q, _, _, rfl, rfl, hp4, e4, ?_, ?_⟩
          · rw [List.length_map, List.length_map, List.length_map]
            exact bigL (by omega)
          have elist : F.map R.v ++ ((nowM (comeM r m).1).map wake).map R.v = (F ++ (nowM (comeM r m).1).map wake).map R.v := (List.map_append ..).symm
          rw [elist]
          have od4' : ∀ x ∈ F, OAt CO H4 x.a x.w := fun x hx => by
            obtain ⟨da, ea⟩ := od3 x hx
            have Ax := B3.ao ⟨da, ea⟩
            refine ⟨da, fr_at f4 ea fun y hy e => ?_⟩
            unfold foot at hy
            rcases List.mem_append.mp hy with h | h
            · simp only [List.mem_cons, List.not_mem_nil, or_false] at h
              rcases h with rfl | rfl | rfl | rfl | rfl | rfl
              · exact Ax.bk e
              · exact Ax.lb e
              · exact Ax.ls e
              · exact Ax.wl e
              · exact Ax.kd e
              · exact Ax.ev e
            · exact (way3.out x hx).a (e ▸ h)
          have wn := way_now B3.ok
          have dis : ∀ x ∈ F, ∀ y ∈ (nowM (comeM r m).1).map wake, x.a ≠ y.a ∧ x.o.id ≠ y.o.id := fun x hx y hy => by
            obtain ⟨z, hz, rfl⟩ := List.mem_map.mp hy
            exact ⟨fun e => (way3.out x hx).a (List.mem_map.mpr ⟨z, now_all hz, e.symm⟩), fun e => (way3.out x hx).id (List.mem_map.mpr ⟨z, now_all hz, e.symm⟩)⟩
          have way4 : Way (F ++ (nowM (comeM r m).1).map wake) (offM (comeM r m).1) := by
            refine ⟨fun x hx => ?_, ?_, ?_, fun x hx => ?_⟩
            · rcases List.mem_append.mp hx with h | h
              · exact (off_sub _).out (way3.out x h)
              · exact wn.out x h
            · rw [List.map_append]
              refine List.nodup_append.mpr ⟨way3.a, wn.a, fun a ha b hb e => ?_⟩
              obtain ⟨x, hx, rfl⟩ := List.mem_map.mp ha
              obtain ⟨y, hy, rfl⟩ := List.mem_map.mp hb
              exact (dis x hx y hy).1 e
            · rw [List.map_append]
              refine List.nodup_append.mpr ⟨way3.id, wn.id, fun a ha b hb e => ?_⟩
              obtain ⟨x, hx, rfl⟩ := List.mem_map.mp ha
              obtain ⟨y, hy, rfl⟩ := List.mem_map.mp hb
              exact (dis x hx y hy).2 e
            · rcases List.mem_append.mp hx with h | h
              · exact way3.k x h
              · exact wn.k x h
          have od5 : ∀ x ∈ F ++ (nowM (comeM r m).1).map wake, OAt CO H4 x.a x.w := fun x hx => by
            rcases List.mem_append.mp hx with h | h
            · exact od4' x h
            · exact od4 x h
          have cw := come_waits r m
          have lw2 : (nowM (comeM r m).1).length + (offM (comeM r m).1).waits.length = m.waits.length := by
            rw [← cw]
            have h2 : (offM (comeM r m).1).all.length = (comeM r m).1.buys.length + (comeM r m).1.sells.length + (offM (comeM r m).1).waits.length := by
              unfold M.all
              rw [List.length_append, List.length_append]
              rfl
            have h3 : (comeM r m).1.all.length = (comeM r m).1.buys.length + (comeM r m).1.sells.length + (comeM r m).1.waits.length := by
              unfold M.all
              rw [List.length_append, List.length_append]
            omega
          refine ⟨k, Nat.lt_succ_self k, F ++ (nowM (comeM r m).1).map wake, offM (comeM r m).1, pre ++ ((comeM r m).2 ++ trigE (comeM r m).1), rfl, ?_, upd_same, fun x hx => ?_, way4, lo, ?_, ?_, ?_, (off_sub _).trans sub3, fun x hx => ?_, ?_⟩
          · have := B4.keepL hp4 lo (fr_upd (o := .lst ((F ++ (nowM (comeM r m).1).map wake).map R.v)))
            rw [flat_app, flat_app, ← List.append_assoc, ← List.append_assoc]
            exact this
          · obtain ⟨da, ea⟩ := od5 x hx
            exact ⟨da, (upd_ne (ne_of ea hp4 (by intro e; cases e))).trans ea⟩
          · rw [eq, List.append_assoc, List.append_assoc]
          · rw [List.length_append, List.length_map]
            omega
          · rw [List.length_append, List.length_map]
            omega
          · rcases List.mem_append.mp hx with h | h
            · exact fm x (List.mem_cons_of_mem _ h)
            · obtain ⟨y, hy, e1, e2⟩ := from_now _ x h
              obtain ⟨z, hz, f1, f2⟩ := sub3 y hy
              exact ⟨z, hz, e1.trans f1, e2.trans f2⟩
          · have pn : H p = none := hp
            refine (((fr.trans F2 (zs := foot L m0) (fun b hb => .inl hb) fun b hb => .inr (by rw [List.mem_singleton.mp hb]; exact pn)).trans f3 (zs := foot L m0) (fun b hb => .inl hb) fun b hb => .inl ?_).trans f4 (zs := foot L m0) (fun b hb => .inl hb) fun b hb => .inl (sub3.foot hb)).trans (fr_upd (a := p)) (fun b hb => .inl hb) fun b hb => .inr (by rw [List.mem_singleton.mp hb]; exact pn)
            rcases List.mem_cons.mp hb with h | h
            · rw [h]
              obtain ⟨z, hz, f1, _⟩ := fm r (List.mem_cons_self ..)
              rw [f1]
              exact foot_od hz
            · exact sub.foot h
end
end SB
namespace SB
open PySem PySem.Spec PyProof.Rows L2
section
/-! ### the price of an auction, as the program finds it -/
def sumA (l : List R) : Nat := (l.map fun r => r.o.amount).sum
theorem sumA_take {l : List R} {k : Nat} {x : R} (h : l[k]? = some x) : sumA (l.take (k + 1)) = sumA (l.take k) + x.o.amount := by
  unfold sumA
  rw [List.take_add_one, h, List.map_append, List.sum_append]
  show _ + (x.o.amount + 0) = _
  omega
theorem filter_take {q : R → Bool} : ∀ {l : List R} {k : Nat}, k ≤ l.length → (∀ i x, i < k → l[i]? = some x → q x = true) → (∀ i x, k ≤ i → l[i]? = some x → q x = false) → l.filter q = l.take k
  | [], k, hk, _, _ => by simp
  | a :: l, 0, hk, _, h2 => by
    have h := h2 0 a (Nat.le_refl 0) rfl
    rw [List.filter_cons_of_neg (by simp [h]), filter_take (k := 0) (Nat.zero_le _) (fun i x hi => absurd hi (Nat.not_lt_zero i)) fun i x _ e => h2 (i + 1) x (Nat.zero_le _) e]
    rfl
  | a :: l, k + 1, hk, h1, h2 => by
    have h := h1 0 a (Nat.succ_pos k) rfl
    rw [List.filter_cons_of_pos h, filter_take (k := k) (by simpa using hk) (fun i x hi e => h1 (i + 1) x (by omega) e) fun i x hi e => h2 (i + 1) x (by omega) e]
    rfl
theorem dem_take {l : List R} {p k : Nat} (hk : k ≤ l.length) (h1 : ∀ (i : Nat) (x : R), i < k → l[i]? = some x → p ≤ x.o.price) (h2 : ∀ (i : Nat) (x : R), k ≤ i → l[i]? = some x → x.o.price < p) : dem l p = sumA (l.take k) := by
  unfold dem sumA
  rw [filter_take hk (fun i x hi e => decide_eq_true (h1 i x hi e)) fun i x hi e => decide_eq_false (by have := h2 i x hi e; omega)]
theorem sup_take {l : List R} {p k : Nat} (hk : k ≤ l.length) (h1 : ∀ (i : Nat) (x : R), i < k → l[i]? = some x → x.o.price ≤ p) (h2 : ∀ (i : Nat) (x : R), k ≤ i → l[i]? = some x → p < x.o.price) : sup l p = sumA (l.take k) := by
  unfold sup sumA
  rw [filter_take hk (fun i x hi e => decide_eq_true (h1 i x hi e)) fun i x hi e => decide_eq_false (by have := h2 i x hi e; omega)]
theorem srt_le {buy : Bool} {l : List R} (hs : Srt buy (l.map (·.o))) {i j : Nat} {x y : R} (hx : l[i]? = some x) (hy : l[j]? = some y) (hij : i ≤ j) : if buy = true then y.o.price ≤ x.o.price else x.o.price ≤ y.o.price := by
  rcases Nat.lt_or_ge i j with h1 | h1
  · unfold Srt at hs
    rw [List.pairwise_map, List.pairwise_iff_getElem] at hs
    obtain ⟨hi, e1⟩ := List.getElem?_eq_some_iff.mp hx
    obtain ⟨hj, e2⟩ := List.getElem?_eq_some_iff.mp hy
    have := hs i j hi hj h1
    rw [e1, e2] at this
    exact better_false.mp this
  · have : i = j := by omega
    subst this
    rw [hx] at hy
    cases hy
    split <;> exact Nat.le_refl _
def rankL (m : M) (p : Nat) : List Int := [-(vK m p : Int), (sK m p : Int), (nK m p : Int), (p : Int)]
def enc (m : M) : Option Nat → List Int
  | none => [0, 0, 0, 0]
  | some p => rankL m p
theorem lex4 (a b c d a' b' c' d' : Int) : HT.lexLt [a, b, c, d] [a', b', c', d'] = if a = a' then (if b = b' then (if c = c' then (if d = d' then false else decide (d < d')) else decide (c < c')) else decide (b < b')) else decide (a < a') := rfl
theorem lex_enc (m : M) (p : Nat) (o : Option Nat) : (if HT.lexLt (rankL m p) (enc m o) = true then some p else o) = pickP m o p := by
  cases o with
  | none =>
    show (if HT.lexLt [-(vK m p : Int), (sK m p : Int), (nK m p : Int), (p : Int)] [0, 0, 0, 0] = true then some p else none) = if vK m p = 0 then none else some p
    rw [lex4]
    by_cases c : vK m p = 0
    · rw [if_pos c, if_pos (show -(vK m p : Int) = 0 by omega)]
      refine if_neg ?_
      split <;> (try split) <;> (try split) <;> simp <;> omega
    · rw [if_neg c, if_neg (show ¬ -(vK m p : Int) = 0 by omega), decide_eq_true (show -(vK m p : Int) < 0 by omega)]
      rfl
  | some x =>
    show (if HT.lexLt [-(vK m p : Int), (sK m p : Int), (nK m p : Int), (p : Int)] [-(vK m x : Int), (sK m x : Int), (nK m x : Int), (x : Int)] = true then some p else some x) = if cmpK m p x = true then some p else some x
    have e : HT.lexLt [-(vK m p : Int), (sK m p : Int), (nK m p : Int), (p : Int)] [-(vK m x : Int), (sK m x : Int), (nK m x : Int), (x : Int)] = cmpK m p x := by
      rw [lex4]
      unfold cmpK
      by_cases c1 : vK m p = vK m x
      · rw [if_pos (show -(vK m p : Int) = -(vK m x : Int) by omega), if_neg (show ¬ (vK m p ≠ vK m x) by simpa using c1)]
        by_cases c2 : sK m p = sK m x
        · rw [if_pos (show (sK m p : Int) = (sK m x : Int) by omega), if_neg (show ¬ (sK m p ≠ sK m x) by simpa using c2)]
          by_cases c3 : nK m p = nK m x
          · rw [if_pos (show (nK m p : Int) = (nK m x : Int) by omega), if_neg (show ¬ (nK m p ≠ nK m x) by simpa using c3)]
            by_cases c4 : p = x
            · rw [if_pos (by omega), decide_eq_false (by omega)]
            · rw [if_neg (by omega), Bool.eq_iff_iff, decide_eq_true_eq, decide_eq_true_eq]
              omega
          · rw [if_neg (show ¬ (nK m p : Int) = (nK m x : Int) by omega), if_pos c3, Bool.eq_iff_iff, decide_eq_true_eq, decide_eq_true_eq]
            omega
        · rw [if_neg (show ¬ (sK m p : Int) = (sK m x : Int) by omega), if_pos c2, Bool.eq_iff_iff, decide_eq_true_eq, decide_eq_true_eq]
          omega
      · rw [if_neg (show ¬ -(vK m p : Int) = -(vK m x : Int) by omega), if_pos c1, Bool.eq_iff_iff, decide_eq_true_eq, decide_eq_true_eq]
        omega
    rw [e]
end
section
variable {P : Program} {w : World} {K : PySem.W.Frag} {mg : Str → Option Value} {base : Heap} {CO CB : Addr}
def spAuctionPrice (K : PySem.W.Frag) (CO : Addr) : Sp := fun vs H Q _ => ∃ (m : M) (lb ls : Addr), vs = [.ref lb, .ref ls, .int (m.last : Int)] ∧ H lb = some (.lst (m.buys.map R.v)) ∧ H ls = some (.lst (m.sells.map R.v)) ∧ (∀ r ∈ m.all, OAt CO H r.a r.w) ∧ MOk m ∧ m.all.length ≤ 2000 ∧
  ∀ ps H', (∀ p, p ∈ ps ↔ p ∈ (m.buys ++ m.sells).map fun r => r.o.price) → Fr [] H H' → Q (.int (clearP m ps : Nat)) H'
theorem ln_auction_price {vs : List V} {H : Hp} {Q : VK} {E : XK} (h : spAuctionPrice K CO vs H Q E) : vs.length = 3 := by
  obtain ⟨m, lb, ls, rfl, _⟩ := h
  rfl
/-- ahead of the i-th price -/
structure Auc (m : M) (ps : List Nat) (i l j : Nat) : Prop where
  hl : l ≤ m.buys.length
  hj : j ≤ m.sells.length
  ab : ∀ (k : Nat) (x : R), l ≤ k → m.buys[k]? = some x → ∀ (i2 p : Nat), i ≤ i2 → ps[i2]? = some p → x.o.price < p
  be : ∀ (k : Nat) (x : R), k < j → m.sells[k]? = some x → ∀ (i2 p : Nat), i ≤ i2 → ps[i2]? = some p → x.o.price ≤ p
def wAuc (K : PySem.W.Frag) (m : M) (ps : List Nat) (lb ls z : Addr) (H : Hp) (i : Nat) (σ : L2.St) (H' : Hp) : Prop := ∃ (l j : Nat) (bt : Addr) (v8 v9 v10 : Option V),
  σ = [some (.ref lb), some (.ref ls), some (.int (m.last : Int)), some (.int (sumA (m.buys.take l) : Nat)), some (.int (sumA (m.sells.take j) : Nat)), some (.int (l : Nat)), some (.int (j : Nat)), some (.ref bt), v8, v9, v10, none] ∧
  Auc m ps i l j ∧ H' bt = some (.tup ((enc m ((ps.take i).foldl (pickP m) none)).map V.int)) ∧ H' z = some (.lst ((ps.map fun (p : Nat) => (p : Int)).map V.int)) ∧ Fr [] H H'
def wLeft (m : M) (lb ls : Addr) (j : Nat) (bt : Addr) (p : Nat) (v9 v10 : Option V) (H : Hp) (n : Nat) (σ : L2.St) (H' : Hp) : Prop := ∃ l : Nat, σ = [some (.ref lb), some (.ref ls), some (.int (m.last : Int)), some (.int (sumA (m.buys.take l) : Nat)), some (.int (sumA (m.sells.take j) : Nat)), some (.int (l : Nat)), some (.int (j : Nat)), some (.ref bt), some (.int (p : Int)), v9, v10, none] ∧
  H' = H ∧ n = l ∧ l ≤ m.buys.length ∧ ∀ (k : Nat) (x : R), l ≤ k → m.buys[k]? = some x → x.o.price < p
def wJoin (m : M) (lb ls : Addr) (l : Nat) (bt : Addr) (p : Nat) (v9 v10 : Option V) (H : Hp) (n : Nat) (σ : L2.St) (H' : Hp) : Prop := ∃ j : Nat, σ = [some (.ref lb), some (.ref ls), some (.int (m.last : Int)), some (.int (sumA (m.buys.take l) : Nat)), some (.int (sumA (m.sells.take j) : Nat)), some (.int (l : Nat)), some (.int (j : Nat)), some (.ref bt), some (.int (p : Int)), v9, v10, none] ∧
  H' = H ∧ n = m.sells.length - j ∧ j ≤ m.sells.length ∧ ∀ (k : Nat) (x : R), k < j → m.sells[k]? = some x → x.o.price ≤ p
theorem stl {x0 x1 x2 x4 x6 x7 x8 x9 x10 x11 : Option V} {a3 b3 a5 b5 : Int} (e3 : a3 = b3) (e5 : a5 = b5) : ([x0, x1, x2, some (.int a3), x4, some (.int a5), x6, x7, x8, x9, x10, x11] : L2.St) = [x0, x1, x2, some (.int b3), x4, some (.int b5), x6, x7, x8, x9, x10, x11] := by
  subst e3
  subst e5
  rfl
theorem stj {x0 x1 x2 x3 x5 x7 x8 x9 x10 x11 : Option V} {a4 b4 a6 b6 : Int} (e4 : a4 = b4) (e6 : a6 = b6) : ([x0, x1, x2, x3, some (.int a4), x5, some (.int a6), x7, x8, x9, x10, x11] : L2.St) = [x0, x1, x2, x3, some (.int b4), x5, some (.int b6), x7, x8, x9, x10, x11] := by
  subst e4
  subst e6
  rfl
theorem iteDT {c : Prop} [Decidable c] {a b : Prop} (h : c) (x : a) : if decide c = true then a else b := by
  rw [decide_eq_true h]
  exact iteT x
theorem iteDF {c : Prop} [Decidable c] {a b : Prop} (h : ¬ c) (x : b) : if decide c = true then a else b := by
  rw [decide_eq_false h]
  exact iteF x
theorem cond_left (T : Txt K mg CO CB) {m : M} {σ : L2.St} {H : Hp} {lb : Addr} {l p : Nat} (h0 : σ[0]? = some (some (.ref lb))) (h5 : σ[5]? = some (some (.int (l : Nat)))) (h8 : σ[8]? = some (some (.int (p : Int)))) (hlb : H lb = some (.lst (m.buys.map R.v)))
    (od : ∀ r ∈ m.all, OAt CO H r.a r.w) (hl : l ≤ m.buys.length) {Qc : Bool → Hp → Prop} (ht : ∀ (k : Nat) (x : R), l = k + 1 → m.buys[k]? = some x → x.o.price < p → Qc true H) (hf : (∀ (k : Nat) (x : R), l = k + 1 → m.buys[k]? = some x → p ≤ x.o.price) → Qc false H) :
    (if decide ((0 : Int) < (l : Nat)) = true then (tTest (tOp (rI0 fun i j => V.bl (decide (i < j))) (tFld K (tOp (rIxL K) (tVar 0) (tOp (rI0 fun i j => V.int (i - j)) (tVar 5) (tC (V.int 1)))) "price") (tVar 8))) σ H Qc else Qc false H) := by
  cases l with
  | zero => exact iteDF (by omega) (hf fun k x e => nomatch e)
  | succ l =>
    refine iteDT (by omega) ?_
    have hx : m.buys[l]? = some m.buys[l] := List.getElem?_eq_getElem (by omega)
    generalize m.buys[l] = x at hx
    obtain ⟨dx, e⟩ := od x (mem_all.mpr (.inl (List.mem_of_getElem? hx)))
    have ei : ((l + 1 : Nat) : Int) - 1 = ((l : Nat) : Int) := by omega
    have hat : atI (m.buys.map R.v) (((l + 1 : Nat) : Int) - 1) = some x.v := by
      rw [ei]
      exact atI_nat (by rw [List.getElem?_map, hx]; rfl)
    refine ⟨_, h0, _, h5, _, _, rfl, rfl, lb, _, _, _, rfl, rfl, SqL.of hlb, hat, x.a, CO, dx, _, _, rfl, e, T.clO, T.nO_price, rfl, _, h8, _, _, rfl, rfl, _, rfl, ?_⟩
    show Qc (decide ((x.o.price : Int) < (p : Int))) H
    by_cases c : x.o.price < p
    · rw [decide_eq_true (show (x.o.price : Int) < (p : Int) by omega)]
      exact ht l x rfl hx c
    · rw [decide_eq_false (show ¬ (x.o.price : Int) < (p : Int) by omega)]
      refine hf fun k y ek ey => ?_
      obtain rfl : l = k := by omega
      rw [hx] at ey
      cases ey
      omega
theorem cond_join (T : Txt K mg CO CB) {m : M} {σ : L2.St} {H : Hp} {ls : Addr} {j p : Nat} (h1 : σ[1]? = some (some (.ref ls))) (h6 : σ[6]? = some (some (.int (j : Nat)))) (h8 : σ[8]? = some (some (.int (p : Int)))) (hls : H ls = some (.lst (m.sells.map R.v)))
    (od : ∀ r ∈ m.all, OAt CO H r.a r.w) {Qc : Bool → Hp → Prop} (ht : ∀ (x : R), m.sells[j]? = some x → x.o.price ≤ p → Qc true H) (hf : (∀ (x : R), m.sells[j]? = some x → p < x.o.price) → Qc false H) :
    (if decide ((j : Int) < ((m.sells.map R.v).length : Nat)) = true then (tTest (tOp (rI0 fun i j => V.bl (decide (i ≤ j))) (tFld K (tOp (rIxL K) (tVar 1) (tVar 6)) "price") (tVar 8))) σ H Qc else Qc false H) := by
  by_cases cj : j < m.sells.length
  · refine iteDT (by rw [List.length_map]; omega) ?_
    have hx : m.sells[j]? = some m.sells[j] := List.getElem?_eq_getElem cj
    generalize m.sells[j] = x at hx
    obtain ⟨dx, e⟩ := od x (mem_all.mpr (.inr (.inl (List.mem_of_getElem? hx))))
    have hat : atI (m.sells.map R.v) ((j : Nat) : Int) = some x.v := atI_nat (by rw [List.getElem?_map, hx]; rfl)
    refine ⟨_, h1, _, h6, ls, _, _, _, rfl, rfl, SqL.of hls, hat, x.a, CO, dx, _, _, rfl, e, T.clO, T.nO_price, rfl, _, h8, _, _, rfl, rfl, _, rfl, ?_⟩
    show Qc (decide ((x.o.price : Int) ≤ (p : Int))) H
    by_cases c : x.o.price ≤ p
    · rw [decide_eq_true (show (x.o.price : Int) ≤ (p : Int) by omega)]
      exact ht x hx c
    · rw [decide_eq_false (show ¬ (x.o.price : Int) ≤ (p : Int) by omega)]
      refine hf fun y ey => ?_
      rw [hx] at ey
      cases ey
      omega
  · refine iteDF (by rw [List.length_map]; omega) (hf fun x e => ?_)
    exact absurd (List.getElem?_eq_some_iff.mp e).1 cj
theorem dist_if {m : M} {p : Nat} {A : Prop} {Qv : V → Hp → Prop} {H : Hp} {σ : L2.St} (ha : Qv (.int (if ((p : Int) - (m.last : Int)) < 0 then -((p : Int) - (m.last : Int)) else ((p : Int) - (m.last : Int)))) H → A) (h : Qv (.int (nK m p : Nat)) H) : if decide ((0 : Int) < (m.last : Int)) = true then A else tC (.int 0) σ H Qv := by
  unfold nK at h
  by_cases c : m.last = 0
  · rw [if_pos c] at h
    exact iteDF (by omega) h
  · rw [if_neg c] at h
    refine iteDT (by omega) (ha ?_)
    have e : ((Sd17.apart p m.last : Nat) : Int) = if ((p : Int) - (m.last : Int)) < 0 then -((p : Int) - (m.last : Int)) else ((p : Int) - (m.last : Int)) := by
      unfold Sd17.apart
      split <;> omega
    rw [← e]
    exact h
theorem rank_eq {m : M} {p d s : Nat} (hd : dem m.buys p = d) (hs : sup m.sells p = s) : [V.int (-(if ((s : Nat) : Int) < ((d : Nat) : Int) then ((s : Nat) : Int) else ((d : Nat) : Int))), V.int (if ((d : Nat) : Int) - ((s : Nat) : Int) < 0 then -(((d : Nat) : Int) - ((s : Nat) : Int)) else (((d : Nat) : Int) - ((s : Nat) : Int))), V.int ((nK m p : Nat) : Int), V.int (p : Int)] = (rankL m p).map V.int := by
  have e1 : ((vK m p : Nat) : Int) = if ((s : Nat) : Int) < ((d : Nat) : Int) then ((s : Nat) : Int) else ((d : Nat) : Int) := by
    unfold vK
    rw [hd, hs, Nat.min_def]
    split <;> split <;> omega
  have e2 : ((sK m p : Nat) : Int) = if ((d : Nat) : Int) - ((s : Nat) : Int) < 0 then -(((d : Nat) : Int) - ((s : Nat) : Int)) else (((d : Nat) : Int) - ((s : Nat) : Int)) := by
    unfold sK Sd17.apart
    rw [hd, hs]
    split <;> omega
  rw [← e1, ← e2]
  rfl
theorem ok_auction_price {f : Addr} {fd : FuncData} (F : Fun K "auction_price" "auction_price" s_auction_price f fd) (T : Txt K mg CO CB)  : FnOk P w K mg base CX0 1 f fd ["buyers", "sellers", "latest"] (spAuctionPrice K CO) := by
  refine F.ok sc_auction_price (fun vs H Q E h => ln_auction_price h) (fun cdv A outer s H vs Q E hr h => ?_)
  have hu := hu_of hr
  refine ⟨_, (pss_cons (ps_set (i := 3) sc_auction_price.nd rfl (Or.inl rfl) (pe_callB (cr_sum rfl) (by rfl) T.b_sum (by decide +kernel) (pa_cons (pe_lc (own := [("order", 11)]) (g := gName 11) (tt := tYes) (te := (tFld K (tVar 11) "amount")) rfl sc_auction_price.nd (pi_list (pv 0)) (blkOk_by (N := ["buyers", "sellers", "latest", "wanted", "offered", "left", "joined", "best", "price", "distance", "rank", "order"]) (sc := defScope s_auction_price) (by decide +kernel)) (by exact fun _ _ _ _ _ => pg_name (i := 11) sc_auction_price.nd rfl (Or.inl rfl)) (by exact fun _ _ _ _ _ => pts_nil) (by exact fun _ _ _ _ _ => (pe_fld (pv 11) rfl))) pa_nil)))
    (pss_cons (ps_set (i := 4) sc_auction_price.nd rfl (Or.inl rfl) pe_int)
    (pss_cons (ps_set (i := 5) sc_auction_price.nd rfl (Or.inl rfl) (pe_callB call_len_seq (by rfl) T.b_len PySem.boot_len (pa_cons (pv 0) pa_nil)))
    (pss_cons (ps_set (i := 6) sc_auction_price.nd rfl (Or.inl rfl) pe_int)
    (pss_cons (ps_set (i := 7) sc_auction_price.nd rfl (Or.inl rfl) (pe_tup (pa_cons pe_int (pa_cons pe_int (pa_cons pe_int (pa_cons pe_int pa_nil))))))
    (pss_cons (ps_for PassesOwn.never rfl (pi_list (pe_callB (cr_sortedSetA rfl) (by rfl) T.b_sorted (by decide +kernel) (pa_cons (pe_callTy (cr_setL rfl) (by rfl) T.b_set (by decide +kernel) (pa_cons (pe_lc (own := [("order", 11)]) (g := gName 11) (tt := tYes) (te := (tFld K (tVar 11) "price")) rfl sc_auction_price.nd (pi_list (pe_op op_cat (pv 0) (pv 1))) (blkOk_by (N := ["buyers", "sellers", "latest", "wanted", "offered", "left", "joined", "best", "price", "distance", "rank", "order"]) (sc := defScope s_auction_price) (by decide +kernel)) (by exact fun _ _ _ _ _ => pg_name (i := 11) sc_auction_price.nd rfl (Or.inl rfl)) (by exact fun _ _ _ _ _ => pts_nil) (by exact fun _ _ _ _ _ => (pe_fld (pv 11) rfl))) pa_nil)) pa_nil))) (pg_name (i := 8) sc_auction_price.nd rfl (Or.inl rfl))
      (pss_cons (ps_while PassesOwn.never (PW.pt (pw_and (pt_cmpR op_gt (pv 5) pe_int (nomark _)) (pw_and1 (pt_cmpR op_lt (pe_fld (pe_ix ix_list (pv 0) (pe_op op_sub (pv 5) pe_int) (fun _ _ => rfl)) rfl) (pv 8) (nomark _)))))
          (pss_cons (ps_aug (i := 5) sc_auction_price.nd rfl (Or.inl rfl) pe_int ip_sub)
            (pss_one (ps_aug (i := 3) sc_auction_price.nd rfl (Or.inl rfl) (pe_fld (pe_ix ix_list (pv 0) (pv 5) (fun _ _ => rfl)) rfl) ip_sub))))
        (pss_cons (ps_while PassesOwn.never (PW.pt (pw_and (pt_cmpR op_lt (pv 6) (pe_callB call_len_seq (by rfl) T.b_len PySem.boot_len (pa_cons (pv 1) pa_nil)) (nomark _)) (pw_and1 (pt_cmpR op_le (pe_fld (pe_ix ix_list (pv 1) (pv 6) (fun _ _ => rfl)) rfl) (pv 8) (nomark _)))))
          (pss_cons (ps_aug (i := 4) sc_auction_price.nd rfl (Or.inl rfl) (pe_fld (pe_ix ix_list (pv 1) (pv 6) (fun _ _ => rfl)) rfl) ip_add)
            (pss_one (ps_aug (i := 6) sc_auction_price.nd rfl (Or.inl rfl) pe_int ip_add))))
        (pss_cons (ps_set (i := 9) sc_auction_price.nd rfl (Or.inl rfl) (pe_ifExp (pt_cmpR op_gt (pv 2) pe_int (nomark _)) (pe_callB call_abs (by rfl) T.b_abs (by decide +kernel) (pa_cons (pe_op op_sub (pv 8) (pv 2)) pa_nil)) pe_int))
        (pss_cons (ps_set (i := 10) sc_auction_price.nd rfl (Or.inl rfl) (pe_tup (pa_cons (pe_un un_neg (pe_callB (call_min2 rfl) (by rfl) T.b_min (by decide +kernel) (pa_cons (pv 3) (pa_cons (pv 4) pa_nil)))) (pa_cons (pe_callB call_abs (by rfl) T.b_abs (by decide +kernel) (pa_cons (pe_op op_sub (pv 3) (pv 4)) pa_nil)) (pa_cons (pv 9) (pa_cons (pv 8) pa_nil))))))
        (pss_one (ps_if (pt_cmpR (op_ltT hr.units0) (pv 10) (pv 7) (nomark _))
          (pss_one (ps_set (i := 7) sc_auction_price.nd rfl (Or.inl rfl) (pv 10)))
          pss_nil)))))))
    (pss_one (ps_ret (pe_ix ix_tup (pv 7) pe_int (fun _ _ => rfl)))))))))), ?_⟩

  obtain ⟨m, lb, ls, rfl, hlb, hls, od, ok, hm, kk⟩ := h
  rw [show L2.start ["buyers", "sellers", "latest", "wanted", "offered", "left", "joined", "best", "price", "distance", "rank", "order"] [V.ref lb, V.ref ls, V.int (m.last : Int)] = [some (.ref lb), some (.ref ls), some (.int (m.last : Int)), none, none, none, none, none, none, none, none, none] from rfl]
  have sb := side_len (m := m) true
  have ss := side_len (m := m) false
  have sb : m.buys.length ≤ m.all.length := sb
  have ss : m.sells.length ≤ m.all.length := ss
  -- wanted
  refine ⟨.ref lb, rfl, lb, rfl, ⟨_, SqL.of hlb⟩, comp_list (rs := m.buys) (φ := R.v) (fun _ => true) (fun x => .int (x.o.amount : Int)) hlb (by omega) (fun _ => rfl) (fun x hx H' f R hR => hR) (fun x hx _ H' f R hR => ?_) fun D1 H1 hD1 f1 e1 => ?_⟩
  · obtain ⟨dx, e⟩ := od x (mem_all.mpr (.inl hx))
    have e := fr_nil f e
    change tFld K (tVar 11) "amount" [some (.ref lb), some (.ref ls), some (.int (m.last : Int)), none, none, none, none, none, none, none, none, some (.ref x.a)] H' R
    simp only [cxOf, Cx.nox, tSeq, tNext, tRet, tRetN, tDrop, tIfS, tVar, tC, tOp, tUn, tTest, tB, tAnd, tOr, tNot, tAndV, tOrV, tNotV, tIf, tFld, sFld, sFldAug, tAsg, gName, tAug, tCons, tNil, tCB, tCall, tMeth, tChain, sDPut, tDGet, tDIn, tDNotIn, tDGet1, tDPop1, tBM, tBM0, tLst, tTup, tDNewK, rI0, rI, CDiv, rU, L2.rAdd, L2.rSub, ipI, List.getElem?_cons_zero, List.getElem?_cons_succ, List.set_cons_zero, List.set_cons_succ, Option.some.injEq, exists_eq_left', exists_eq_left, V.ref.injEq, V.int.injEq, V.bl.injEq, HO.ins.injEq, HO.lst.injEq, HO.dK.injEq, HO.tup.injEq, and_assoc, true_and, and_true, exists_and_left, List.cons.injEq, List.append_nil, List.cons_append, List.nil_append, x_eq, x_ne, oF_inj, if_true, if_false, Bool.false_eq_true, ite_true, ite_false, eq_self_iff_true, T.clO, T.nO_number, T.nO_who, T.nO_side, T.nO_kind, T.nO_price, T.nO_amount, T.nO_trigger, oF_number, oF_who, oF_side, oF_kind, oF_price, oF_amount, oF_trigger, oF_put_number, oF_put_who, oF_put_side, oF_put_kind, oF_put_price, oF_put_amount, oF_put_trigger, T.clB, T.nB_lines, T.nB_waiting, T.nB_known, T.nB_latest, T.nB_in_auction, T.nB_events, bF_lines, bF_waiting, bF_known, bF_latest, bF_in_auction, bF_events, bF_put_latest, bF_put_in_auction, bF_put_events, e]
    exact hR
  rw [filter_all fun _ _ => rfl] at e1
  refine ⟨D1, m.buys.map fun x => (x.o.amount : Int), rfl, SqL.of (e1.trans (by rw [List.map_map]; rfl)), ?_⟩
  have es : (m.buys.map fun x => (x.o.amount : Int)).sum = ((sumA m.buys : Nat) : Int) := by
    unfold sumA
    rw [← sum_cast, List.map_map]
    rfl
  rw [es]
  have hlb1 := fr_nil f1 hlb
  have hls1 := fr_nil f1 hls
  -- offered, left, joined, best
  refine ⟨_, rfl, lb, m.buys.map R.v, rfl, .inl (SqL.of hlb1), bigL (by show 4 ≤ 16000000; omega), fun bt hbt => ?_⟩
  have f2 : Fr [] H (upd H1 bt (.tup [.int 0, .int 0, .int 0, .int 0])) := f1.trans (fr_new hbt) (fun b hb => nomatch hb) fun b hb => nomatch hb
  have ebt : (upd H1 bt (.tup [.int 0, .int 0, .int 0, .int 0])) bt = some (.tup ((enc m none).map V.int)) := upd_same
  generalize upd H1 bt (.tup [.int 0, .int 0, .int 0, .int 0]) = H2 at f2 ebt
  have hlb2 := fr_nil f2 hlb
  have hls2 := fr_nil f2 hls
  -- the prices
  refine ⟨_, rfl, _, rfl, lb, ls, _, _, rfl, rfl, hlb2, hls2, by rw [List.length_map, List.length_map]; exact bigL (by omega), fun c hc => ⟨c, rfl, ⟨_, SqL.of upd_same⟩, comp_list (rs := m.buys ++ m.sells) (φ := R.v) (fun _ => true) (fun x => .int (x.o.price : Int)) (by rw [upd_same, List.map_append]) (by rw [List.length_append]; omega) (fun _ => rfl) (fun x hx H' f R hR => hR) (fun x hx _ H' f R hR => ?_) fun D2 H3 hD2 f3 e3 => ?_⟩⟩
  · obtain ⟨dx, e⟩ := od x (by rw [mem_all]; rcases List.mem_append.mp hx with h | h; exact .inl h; exact .inr (.inl h))
    have e := fr_nil f ((upd_ne (ne_of_none (fr_nil f2 e) hc)).trans (fr_nil f2 e))
    change tFld K (tVar 11) "price" [some (.ref lb), some (.ref ls), some (.int (m.last : Int)), some (.int (sumA m.buys : Nat)), some (.int 0), some (.int ((m.buys.map SB.R.v).length : Nat)), some (.int 0), some (.ref bt), none, none, none, some (.ref x.a)] H' R
    simp only [cxOf, Cx.nox, tSeq, tNext, tRet, tRetN, tDrop, tIfS, tVar, tC, tOp, tUn, tTest, tB, tAnd, tOr, tNot, tAndV, tOrV, tNotV, tIf, tFld, sFld, sFldAug, tAsg, gName, tAug, tCons, tNil, tCB, tCall, tMeth, tChain, sDPut, tDGet, tDIn, tDNotIn, tDGet1, tDPop1, tBM, tBM0, tLst, tTup, tDNewK, rI0, rI, CDiv, rU, L2.rAdd, L2.rSub, ipI, List.getElem?_cons_zero, List.getElem?_cons_succ, List.set_cons_zero, List.set_cons_succ, Option.some.injEq, exists_eq_left', exists_eq_left, V.ref.injEq, V.int.injEq, V.bl.injEq, HO.ins.injEq, HO.lst.injEq, HO.dK.injEq, HO.tup.injEq, and_assoc, true_and, and_true, exists_and_left, List.cons.injEq, List.append_nil, List.cons_append, List.nil_append, x_eq, x_ne, oF_inj, if_true, if_false, Bool.false_eq_true, ite_true, ite_false, eq_self_iff_true, T.clO, T.nO_number, T.nO_who, T.nO_side, T.nO_kind, T.nO_price, T.nO_amount, T.nO_trigger, oF_number, oF_who, oF_side, oF_kind, oF_price, oF_amount, oF_trigger, oF_put_number, oF_put_who, oF_put_side, oF_put_kind, oF_put_price, oF_put_amount, oF_put_trigger, T.clB, T.nB_lines, T.nB_waiting, T.nB_known, T.nB_latest, T.nB_in_auction, T.nB_events, bF_lines, bF_waiting, bF_known, bF_latest, bF_in_auction, bF_events, bF_put_latest, bF_put_in_auction, bF_put_events, e]
    exact hR
  · rw [filter_all fun _ _ => rfl] at e3
    have f2c : Fr [] H (upd H2 c (.lst (m.buys.map R.v ++ m.sells.map R.v))) := f2.trans (fr_new hc) (fun b hb => nomatch hb) fun b hb => nomatch hb
    have f4 : Fr [] H H3 := f2c.trans f3 (fun b hb => nomatch hb) fun b hb => nomatch hb
    have ebt3 := fr_nil f3 ((upd_ne (ne_of_none ebt hc)).trans ebt)
    refine ⟨D2, (m.buys ++ m.sells).map fun x => (x.o.price : Int), rfl, SqL.of (e3.trans (by rw [List.map_map]; rfl)), by rw [List.length_map, List.length_append]; omega, fun sa cc hsa => ?_⟩
    generalize hS : SetO _ sa (fun j => decide (j ∈ (m.buys ++ m.sells).map fun x => (x.o.price : Int))) cc = so
    have f4s : Fr [] H (upd H3 sa so) := f4.trans (fr_new hsa) (fun b hb => nomatch hb) fun b hb => nomatch hb
    have ebt4 := (upd_ne (o := so) (ne_of_none ebt3 hsa)).trans ebt3
    refine ⟨sa, _, cc, rfl, upd_same.trans (congrArg some hS.symm), fun zs z hsort hmem hz => ?_⟩
    have f5 : Fr [] H (upd (upd H3 sa so) z (.lst (zs.map V.int))) := f4s.trans (fr_new hz) (fun b hb => nomatch hb) fun b hb => nomatch hb
    have ebt5 := (upd_ne (o := .lst (zs.map V.int)) (ne_of_none ebt4 hz)).trans ebt4
    have ez : (upd (upd H3 sa so) z (.lst (zs.map V.int))) z = some (.lst (zs.map V.int)) := upd_same
    generalize upd (upd H3 sa so) z (.lst (zs.map V.int)) = H4 at f5 ebt5 ez
    obtain ⟨ps, rfl, hps⟩ : ∃ ps : List Nat, zs = ps.map (fun (p : Nat) => (p : Int)) ∧ ∀ p : Nat, p ∈ ps ↔ p ∈ (m.buys ++ m.sells).map fun r => r.o.price := by
      have hm2 : ∀ k : Int, k ∈ zs ↔ k ∈ (m.buys ++ m.sells).map fun x => (x.o.price : Int) := fun k => (hmem k).trans ⟨fun h => of_decide_eq_true h, fun h => decide_eq_true h⟩
      have hc2 : ∀ k ∈ zs, ((k.toNat : Nat) : Int) = k := fun k hk => by
        obtain ⟨x, _, e⟩ := List.mem_map.mp ((hm2 k).mp hk)
        omega
      refine ⟨zs.map Int.toNat, ?_, fun p => ⟨fun h => ?_, fun h => ?_⟩⟩
      · rw [List.map_map]
        exact ((List.map_congr_left fun k hk => hc2 k hk).trans (List.map_id zs)).symm
      · obtain ⟨k, hk, e⟩ := List.mem_map.mp h
        obtain ⟨x, hx, e2⟩ := List.mem_map.mp ((hm2 k).mp hk)
        exact List.mem_map.mpr ⟨x, hx, by omega⟩
      · obtain ⟨x, hx, e2⟩ := List.mem_map.mp h
        exact List.mem_map.mpr ⟨(p : Int), (hm2 p).mpr (List.mem_map.mpr ⟨x, hx, by omega⟩), by omega⟩
    have hsort : ps.Pairwise (· < ·) := by
      rw [List.pairwise_map] at hsort
      exact hsort.imp fun h => by omega
    refine ⟨z, rfl, ⟨_, SqL.of ez⟩, for_list (K := K) (a := z) (xs := (ps.map fun (p : Nat) => (p : Int)).map V.int) (wAuc K m ps lb ls z H) ⟨m.buys.length, 0, bt, none, none, none, ?_, ⟨Nat.le_refl _, Nat.zero_le _, ?_, fun k x hk => absurd hk (Nat.not_lt_zero k)⟩, ebt5, ez, f5⟩ (fun i σ H' _ ⟨_, _, _, _, _, _, _, _, _, h, _⟩ => SqL.of h) (fun i y σ H' hi hp => ?_) fun σ H' hp => ?_⟩
    · show ([some (.ref lb), some (.ref ls), some (.int (m.last : Int)), some (.int (sumA m.buys : Nat)), some (.int 0), some (.int ((m.buys.map SB.R.v).length : Nat)), some (.int 0), some (.ref bt), none, none, none, none] : L2.St) = _
      rw [List.take_length, List.length_map]
      rfl
    · intro k x hk e
      exact absurd (List.getElem?_eq_some_iff.mp e).1 (by omega)
    · obtain ⟨l, j, bt2, v8, v9, v10, rfl, au, ebt, ez, f⟩ := hp
      obtain ⟨p, hp, rfl⟩ : ∃ p : Nat, ps[i]? = some p ∧ V.int (p : Int) = y := by
        rw [List.getElem?_map, List.getElem?_map] at hi
        cases e : ps[i]? with
        | none =>
          rw [e] at hi
          cases hi
        | some x =>
          rw [e] at hi
          exact ⟨x, rfl, Option.some.inj hi⟩
      have et : ps.take (i + 1) = ps.take i ++ [p] := by
        rw [List.take_add_one, hp]
        rfl
      have later : ∀ (i2 q : Nat), i + 1 ≤ i2 → ps[i2]? = some q → p < q := fun i2 q h1 e => by
        rw [List.pairwise_iff_getElem] at hsort
        obtain ⟨a1, b1⟩ := List.getElem?_eq_some_iff.mp hp
        obtain ⟨a2, b2⟩ := List.getElem?_eq_some_iff.mp e
        have := hsort i i2 a1 a2 (by omega)
        omega
      have hlb3 := fr_nil f hlb
      have hls3 := fr_nil f hls
      have od3 : ∀ r ∈ m.all, OAt CO H' r.a r.w := fun r hr => by
        obtain ⟨dx, e⟩ := od r hr
        exact ⟨dx, fr_nil f e⟩
      -- the last buyers drop out
      refine ⟨wLeft m lb ls j bt2 p v9 v10 H', ⟨l, l, rfl, rfl, rfl, au.hl, fun k x hk e => au.ab k x hk e i p (Nat.le_refl _) hp⟩, ?_⟩
      rintro n σ H5 ⟨l2, rfl, eH, en, hl2, ab2⟩
      obtain rfl := eH.symm
      obtain rfl := en.symm
      refine ⟨_, rfl, _, _, rfl, rfl, _, rfl, cond_left T rfl rfl rfl hlb3 od3 hl2 (fun k x ek hx hxp => ?_) fun stop => ?_⟩
      · subst ek
        obtain ⟨dx, e⟩ := od3 x (mem_all.mpr (.inl (List.mem_of_getElem? hx)))
        have hat : atI (m.buys.map SB.R.v) ((k : Nat) : Int) = some x.v := atI_nat (by rw [List.getElem?_map, hx]; rfl)
        have e5 : ((k + 1 : Nat) : Int) - 1 = ((k : Nat) : Int) := by omega
        have e3 : ((sumA (m.buys.take (k + 1)) : Nat) : Int) - (x.o.amount : Int) = ((sumA (m.buys.take k) : Nat) : Int) := by
          rw [sumA_take hx]
          omega
        refine iteT ⟨_, fun _ _ n => n, ?_⟩
        refine ⟨_, rfl, _, _, rfl, rfl, _, rfl, _, rfl, _, rfl, lb, _, _, _, rfl, rfl, SqL.of hlb3, (by show atI (m.buys.map SB.R.v) (((k + 1 : Nat) : Int) - 1) = _; rw [e5]; exact hat), x.a, CO, dx, _, _, rfl, e, T.clO, T.nO_amount, rfl, _, _, rfl, rfl, ?_⟩
        refine ⟨k, Nat.lt_succ_self k, k, stl e3 e5, rfl, rfl, by omega, fun k2 y hk2 ey => ?_⟩
        rcases Nat.eq_or_lt_of_le hk2 with h | h
        · subst h
          rw [hx] at ey
          cases ey
          exact hxp
        · exact ab2 k2 y h ey
      · refine iteF ?_
        have edem : dem m.buys p = sumA (m.buys.take l2) := dem_take hl2 (fun k x hk e => by
          cases l2 with
          | zero => exact absurd hk (Nat.not_lt_zero k)
          | succ l2 =>
            have hy : m.buys[l2]? = some m.buys[l2] := List.getElem?_eq_getElem (by omega)
            have h1 := stop l2 _ rfl hy
            have h2 := srt_le (buy := true) ok.sb e hy (by omega)
            rw [if_pos rfl] at h2
            omega) ab2
        -- the next sellers join
        refine ⟨wJoin m lb ls l2 bt2 p v9 v10 H', ⟨m.sells.length - j, j, rfl, rfl, rfl, au.hj, fun k x hk e => au.be k x hk e i p (Nat.le_refl _) hp⟩, ?_⟩
        rintro n σ H5 ⟨j2, rfl, eH, en, hj2, be2⟩
        obtain rfl := eH.symm
        obtain rfl := en.symm
        refine ⟨_, rfl, _, rfl, ls, m.sells.map SB.R.v, rfl, .inl (SqL.of hls3), _, _, rfl, rfl, _, rfl, cond_join T rfl rfl rfl hls3 od3 (fun x hx hxp => ?_) fun stop2 => ?_⟩
        · obtain ⟨dx, e⟩ := od3 x (mem_all.mpr (.inr (.inl (List.mem_of_getElem? hx))))
          have hat : atI (m.sells.map SB.R.v) ((j2 : Nat) : Int) = some x.v := atI_nat (by rw [List.getElem?_map, hx]; rfl)
          have hjl := (List.getElem?_eq_some_iff.mp hx).1
          have e6 : ((j2 : Nat) : Int) + 1 = ((j2 + 1 : Nat) : Int) := by omega
          have e4 : ((sumA (m.sells.take j2) : Nat) : Int) + (x.o.amount : Int) = ((sumA (m.sells.take (j2 + 1)) : Nat) : Int) := by
            rw [sumA_take hx]
            omega
          refine iteT ⟨_, fun _ _ n => n, ?_⟩
          refine ⟨_, rfl, _, rfl, _, rfl, ls, _, _, _, rfl, rfl, SqL.of hls3, hat, x.a, CO, dx, _, _, rfl, e, T.clO, T.nO_amount, rfl, _, _, rfl, rfl, _, rfl, _, _, rfl, rfl, ?_⟩
          refine ⟨m.sells.length - (j2 + 1), by omega, j2 + 1, stj e4 e6, rfl, rfl, hjl, fun k2 y hk2 ey => ?_⟩
          rcases Nat.lt_or_ge k2 j2 with h | h
          · exact be2 k2 y h ey
          · obtain rfl : k2 = j2 := by omega
            rw [hx] at ey
            cases ey
            exact hxp
        · refine iteF ?_
          have esup : sup m.sells p = sumA (m.sells.take j2) := sup_take hj2 be2 (fun k x hk e => by
            have hkl := (List.getElem?_eq_some_iff.mp e).1
            have hy : m.sells[j2]? = some m.sells[j2] := List.getElem?_eq_getElem (by omega)
            have h1 := stop2 _ hy
            have h2 := srt_le (buy := false) ok.ss hy e hk
            rw [if_neg (by decide)] at h2
            omega)
          -- distance
          refine ⟨_, rfl, _, _, rfl, rfl, _, rfl, dist_if (m := m) (p := p) (fun q => ⟨_, rfl, _, rfl, _, _, rfl, rfl, _, rfl, q⟩) ?_⟩
          -- rank
          refine ⟨_, rfl, _, rfl, _, _, rfl, _, rfl, _, rfl, _, rfl, _, _, rfl, rfl, _, rfl, _, rfl, _, rfl, bigL (by show 4 ≤ 16000000; omega), fun rk hrk => ?_⟩
          have ebt6 := (upd_ne (o := .tup [V.int (-(if ((sumA (m.sells.take j2) : Nat) : Int) < ((sumA (m.buys.take l2) : Nat) : Int) then ((sumA (m.sells.take j2) : Nat) : Int) else ((sumA (m.buys.take l2) : Nat) : Int))), V.int (if ((sumA (m.buys.take l2) : Nat) : Int) - ((sumA (m.sells.take j2) : Nat) : Int) < 0 then -(((sumA (m.buys.take l2) : Nat) : Int) - ((sumA (m.sells.take j2) : Nat) : Int)) else (((sumA (m.buys.take l2) : Nat) : Int) - ((sumA (m.sells.take j2) : Nat) : Int))), V.int ((nK m p : Nat) : Int), V.int (p : Int)]) (ne_of_none ebt hrk)).trans ebt
          have ez6 := (upd_ne (o := .tup [V.int (-(if ((sumA (m.sells.take j2) : Nat) : Int) < ((sumA (m.buys.take l2) : Nat) : Int) then ((sumA (m.sells.take j2) : Nat) : Int) else ((sumA (m.buys.take l2) : Nat) : Int))), V.int (if ((sumA (m.buys.take l2) : Nat) : Int) - ((sumA (m.sells.take j2) : Nat) : Int) < 0 then -(((sumA (m.buys.take l2) : Nat) : Int) - ((sumA (m.sells.take j2) : Nat) : Int)) else (((sumA (m.buys.take l2) : Nat) : Int) - ((sumA (m.sells.take j2) : Nat) : Int))), V.int ((nK m p : Nat) : Int), V.int (p : Int)]) (ne_of_none ez hrk)).trans ez
          have f6 : Fr [] H (upd H' rk (.tup [V.int (-(if ((sumA (m.sells.take j2) : Nat) : Int) < ((sumA (m.buys.take l2) : Nat) : Int) then ((sumA (m.sells.take j2) : Nat) : Int) else ((sumA (m.buys.take l2) : Nat) : Int))), V.int (if ((sumA (m.buys.take l2) : Nat) : Int) - ((sumA (m.sells.take j2) : Nat) : Int) < 0 then -(((sumA (m.buys.take l2) : Nat) : Int) - ((sumA (m.sells.take j2) : Nat) : Int)) else (((sumA (m.buys.take l2) : Nat) : Int) - ((sumA (m.sells.take j2) : Nat) : Int))), V.int ((nK m p : Nat) : Int), V.int (p : Int)])) := f.trans (fr_new hrk) (fun b hb => nomatch hb) fun b hb => nomatch hb
          have erk : (upd H' rk (.tup [V.int (-(if ((sumA (m.sells.take j2) : Nat) : Int) < ((sumA (m.buys.take l2) : Nat) : Int) then ((sumA (m.sells.take j2) : Nat) : Int) else ((sumA (m.buys.take l2) : Nat) : Int))), V.int (if ((sumA (m.buys.take l2) : Nat) : Int) - ((sumA (m.sells.take j2) : Nat) : Int) < 0 then -(((sumA (m.buys.take l2) : Nat) : Int) - ((sumA (m.sells.take j2) : Nat) : Int)) else (((sumA (m.buys.take l2) : Nat) : Int) - ((sumA (m.sells.take j2) : Nat) : Int))), V.int ((nK m p : Nat) : Int), V.int (p : Int)])) rk = some (.tup ((rankL m p).map V.int)) := upd_same.trans (congrArg (fun t => some (HO.tup t)) (rank_eq edem esup))
          have au2 : Auc m ps (i + 1) l2 j2 := ⟨hl2, hj2, fun k x hk e i2 q h1 e2 => by
            have a1 := ab2 k x hk e
            have a2 := later i2 q h1 e2
            omega, fun k x hk e i2 q h1 e2 => by
            have a1 := be2 k x hk e
            have a2 := later i2 q h1 e2
            omega⟩
          have efold : (ps.take (i + 1)).foldl (pickP m) none = pickP m ((ps.take i).foldl (pickP m) none) p := by
            rw [et, List.foldl_append]
            rfl
          refine ⟨_, rfl, _, rfl, rk, bt2, rankL m p, enc m ((ps.take i).foldl (pickP m) none), rfl, rfl, SqT.of erk, SqT.of ebt6, _, rfl, ?_⟩
          have elex := lex_enc m p ((ps.take i).foldl (pickP m) none)
          by_cases cl : HT.lexLt (rankL m p) (enc m ((ps.take i).foldl (pickP m) none)) = true
          · refine Eq.mpr (if_pos cl) ⟨_, rfl, l2, j2, rk, _, _, _, rfl, au2, ?_, ez6, f6⟩
            rw [efold, ← elex, if_pos cl]
            exact erk
          · refine Eq.mpr (if_neg cl) ⟨l2, j2, bt2, _, _, _, rfl, au2, ?_, ez6, f6⟩
            rw [efold, ← elex, if_neg cl]
            exact ebt6
    · obtain ⟨l, j, bt2, v8, v9, v10, rfl, au, ebt, ez, f⟩ := hp
      rw [List.length_map, List.length_map, List.take_of_length_le (Nat.le_refl _)] at ebt
      have hat : atI ((enc m (ps.foldl (pickP m) none)).map V.int) 3 = some (.int (clearP m ps : Nat)) := by
        unfold clearP
        cases ps.foldl (pickP m) none with
        | none => exact atI_nat (j := 3) rfl
        | some x => exact atI_nat (j := 3) rfl
      exact ⟨_, rfl, bt2, _, _, _, rfl, rfl, SqT.of ebt, hat, kk ps H' hps f⟩
end
end SB
namespace SB
open PySem PySem.Spec PyProof.Rows L2
section
variable {P : Program} {w : World} {K : PySem.W.Frag} {mg : Str → Option Value} {base : Heap} {CO CB : Addr}
def spPriceOfAuction (K : PySem.W.Frag) (CO CB : Addr) : Sp := fun vs H Q _ => ∃ (L : Lay) (m : M) (es : List Int), vs = [.ref L.bk] ∧ BkAt CO CB L H m es ∧ m.all.length ≤ 2000 ∧
  ∀ ps H', (∀ p, p ∈ ps ↔ p ∈ (m.buys ++ m.sells).map fun r => r.o.price) → Fr [] H H' → Q (.int (clearP m ps : Nat)) H'
theorem ln_Book_price_of_auction {vs : List V} {H : Hp} {Q : VK} {E : XK} (h : spPriceOfAuction K CO CB vs H Q E) : vs.length = 1 := by
  obtain ⟨L, m, es, rfl, _⟩ := h
  rfl
theorem ok_Book_price_of_auction {f : Addr} {fd : FuncData} (F : Fun K "price_of_auction" "Book.price_of_auction" s_Book_price_of_auction f fd) (T : Txt K mg CO CB) {f_auction_price : Addr} {d_auction_price : FuncData} (G_auction_price : Gd P w K mg base 1 "auction_price" f_auction_price d_auction_price ["buyers", "sellers", "latest"] (spAuctionPrice K CO)) : FnOk P w K mg base CX0 2 f fd ["self"] (spPriceOfAuction K CO CB) := by
  refine F.ok sc_Book_price_of_auction (fun vs H Q E h => ln_Book_price_of_auction h) (fun cdv A outer s H vs Q E hr h => ?_)
  have hu := hu_of hr
  refine ⟨_, (pss_one (ps_ret (pe_call G_auction_price.ok (hr.mono (by decide)) rfl G_auction_price.mg G_auction_price.kp G_auction_price.b .nil pass0 (pa_cons (pe_ix ix_tup (pe_fld (pv 0) rfl) (pg_int rfl T.c_BUYS) (fun _ _ => rfl)) (pa_cons (pe_ix ix_tup (pe_fld (pv 0) rfl) (pg_int rfl T.c_SELLS) (fun _ _ => rfl)) (pa_cons (pe_fld (pv 0) rfl) pa_nil)))))), ?_⟩

  obtain ⟨L, m, es, rfl, B, hm, kk⟩ := h
  rw [show L2.start ["self"] [V.ref L.bk] = [some (.ref L.bk)] from rfl]
  obtain ⟨dx, hb⟩ := B.ob
  simp only [cxOf, Cx.nox, tSeq, tNext, tRet, tRetN, tDrop, tIfS, tVar, tC, tOp, tUn, tTest, tB, tAnd, tOr, tNot, tAndV, tOrV, tNotV, tIf, tFld, sFld, sFldAug, tAsg, gName, tAug, tCons, tNil, tCB, tCall, tMeth, tChain, sDPut, tDGet, tDIn, tDNotIn, tDGet1, tDPop1, tBM, tBM0, tLst, tTup, tDNewK, rI0, rI, CDiv, rU, L2.rAdd, L2.rSub, ipI, List.getElem?_cons_zero, List.getElem?_cons_succ, List.set_cons_zero, List.set_cons_succ, Option.some.injEq, exists_eq_left', exists_eq_left, V.ref.injEq, V.int.injEq, V.bl.injEq, HO.ins.injEq, HO.lst.injEq, HO.dK.injEq, HO.tup.injEq, and_assoc, true_and, and_true, exists_and_left, List.cons.injEq, List.append_nil, List.cons_append, List.nil_append, x_eq, x_ne, oF_inj, if_true, if_false, Bool.false_eq_true, ite_true, ite_false, eq_self_iff_true, T.clO, T.nO_number, T.nO_who, T.nO_side, T.nO_kind, T.nO_price, T.nO_amount, T.nO_trigger, oF_number, oF_who, oF_side, oF_kind, oF_price, oF_amount, oF_trigger, oF_put_number, oF_put_who, oF_put_side, oF_put_kind, oF_put_price, oF_put_amount, oF_put_trigger, T.clB, T.nB_lines, T.nB_waiting, T.nB_known, T.nB_latest, T.nB_in_auction, T.nB_events, bF_lines, bF_waiting, bF_known, bF_latest, bF_in_auction, bF_events, bF_put_latest, bF_put_in_auction, bF_put_events, hb]
  refine ix_t B.tl at0 ?_
  simp only [cxOf, Cx.nox, tSeq, tNext, tRet, tRetN, tDrop, tIfS, tVar, tC, tOp, tUn, tTest, tB, tAnd, tOr, tNot, tAndV, tOrV, tNotV, tIf, tFld, sFld, sFldAug, tAsg, gName, tAug, tCons, tNil, tCB, tCall, tMeth, tChain, sDPut, tDGet, tDIn, tDNotIn, tDGet1, tDPop1, tBM, tBM0, tLst, tTup, tDNewK, rI0, rI, CDiv, rU, L2.rAdd, L2.rSub, ipI, List.getElem?_cons_zero, List.getElem?_cons_succ, List.set_cons_zero, List.set_cons_succ, Option.some.injEq, exists_eq_left', exists_eq_left, V.ref.injEq, V.int.injEq, V.bl.injEq, HO.ins.injEq, HO.lst.injEq, HO.dK.injEq, HO.tup.injEq, and_assoc, true_and, and_true, exists_and_left, List.cons.injEq, List.append_nil, List.cons_append, List.nil_append, x_eq, x_ne, oF_inj, if_true, if_false, Bool.false_eq_true, ite_true, ite_false, eq_self_iff_true, T.clO, T.nO_number, T.nO_who, T.nO_side, T.nO_kind, T.nO_price, T.nO_amount, T.nO_trigger, oF_number, oF_who, oF_side, oF_kind, oF_price, oF_amount, oF_trigger, oF_put_number, oF_put_who, oF_put_side, oF_put_kind, oF_put_price, oF_put_amount, oF_put_trigger, T.clB, T.nB_lines, T.nB_waiting, T.nB_known, T.nB_latest, T.nB_in_auction, T.nB_events, bF_lines, bF_waiting, bF_known, bF_latest, bF_in_auction, bF_events, bF_put_latest, bF_put_in_auction, bF_put_events, hb]
  refine ix_t B.tl (atI_nat (j := 1) rfl) ?_
  simp only [cxOf, Cx.nox, tSeq, tNext, tRet, tRetN, tDrop, tIfS, tVar, tC, tOp, tUn, tTest, tB, tAnd, tOr, tNot, tAndV, tOrV, tNotV, tIf, tFld, sFld, sFldAug, tAsg, gName, tAug, tCons, tNil, tCB, tCall, tMeth, tChain, sDPut, tDGet, tDIn, tDNotIn, tDGet1, tDPop1, tBM, tBM0, tLst, tTup, tDNewK, rI0, rI, CDiv, rU, L2.rAdd, L2.rSub, ipI, List.getElem?_cons_zero, List.getElem?_cons_succ, List.set_cons_zero, List.set_cons_succ, Option.some.injEq, exists_eq_left', exists_eq_left, V.ref.injEq, V.int.injEq, V.bl.injEq, HO.ins.injEq, HO.lst.injEq, HO.dK.injEq, HO.tup.injEq, and_assoc, true_and, and_true, exists_and_left, List.cons.injEq, List.append_nil, List.cons_append, List.nil_append, x_eq, x_ne, oF_inj, if_true, if_false, Bool.false_eq_true, ite_true, ite_false, eq_self_iff_true, T.clO, T.nO_number, T.nO_who, T.nO_side, T.nO_kind, T.nO_price, T.nO_amount, T.nO_trigger, oF_number, oF_who, oF_side, oF_kind, oF_price, oF_amount, oF_trigger, oF_put_number, oF_put_who, oF_put_side, oF_put_kind, oF_put_price, oF_put_amount, oF_put_trigger, T.clB, T.nB_lines, T.nB_waiting, T.nB_known, T.nB_latest, T.nB_in_auction, T.nB_events, bF_lines, bF_waiting, bF_known, bF_latest, bF_in_auction, bF_events, bF_put_latest, bF_put_in_auction, bF_put_events, hb]
  exact ⟨m, L.lb, L.ls, rfl, B.lb, B.ls, B.od, B.ok, hm, kk⟩
def bothM (m : M) (p : Nat) : Bool := match m.buys, m.sells with
  | x :: _, y :: _ => decide (p ≤ x.o.price) && decide (y.o.price ≤ p)
  | _, _ => false
def spBothAccept (K : PySem.W.Frag) (CO CB : Addr) : Sp := fun vs H Q _ => ∃ (L : Lay) (m : M) (es : List Int) (p : Nat), vs = [.ref L.bk, .int (p : Int)] ∧ BkAt CO CB L H m es ∧ Q (.bl (bothM m p)) H
theorem ln_Book_both_accept {vs : List V} {H : Hp} {Q : VK} {E : XK} (h : spBothAccept K CO CB vs H Q E) : vs.length = 2 := by
  obtain ⟨L, m, es, p, rfl, _⟩ := h
  rfl
def wBoth (L : Lay) (m : M) (p : Nat) (H : Hp) (i : Nat) (σ : L2.St) (H' : Hp) : Prop := ∃ v, σ = [some (.ref L.bk), some (.int (p : Int)), v] ∧ H' = H ∧ (1 ≤ i → ∃ x l, m.buys = x :: l ∧ p ≤ x.o.price) ∧ (2 ≤ i → ∃ x l, m.sells = x :: l ∧ x.o.price ≤ p)
theorem ok_Book_both_accept {f : Addr} {fd : FuncData} (F : Fun K "both_accept" "Book.both_accept" s_Book_both_accept f fd) (T : Txt K mg CO CB) {f_accepts : Addr} {d_accepts : FuncData} (G_accepts : Gd P w K mg base 1 "accepts" f_accepts d_accepts ["order", "price"] (spAccepts CO)) : FnOk P w K mg base CX0 2 f fd ["self", "price"] (spBothAccept K CO CB) := by
  refine F.ok sc_Book_both_accept (fun vs H Q E h => ln_Book_both_accept h) (fun cdv A outer s H vs Q E hr h => ?_)
  have hu := hu_of hr
  refine ⟨_, (pss_cons (ps_for PassesOwn.never rfl (pi_tup (pe_fld (pv 0) rfl)) (pg_name (i := 2) sc_Book_both_accept.nd rfl (Or.inl rfl))
      (pss_one (ps_if (PW.pt (pw_or (pt_not (pt_truth (pv 2) (by intro _; rfl))) (pw_or1 (pt_not (pt_val (pe_call G_accepts.ok (hr.mono (by decide)) rfl G_accepts.mg G_accepts.kp G_accepts.b .nil pass0 (pa_cons (pe_ix ix_list (pv 2) pe_int (fun _ _ => rfl)) (pa_cons (pv 1) pa_nil))))))))
          (pss_one (ps_ret pe_bl))
          pss_nil)))
    (pss_one (ps_ret pe_bl))), ?_⟩

  obtain ⟨L, m, es, p, rfl, B, kk⟩ := h
  rw [show L2.start ["self", "price", "line"] [V.ref L.bk, V.int (p : Int)] = [some (.ref L.bk), some (.int (p : Int)), none] from rfl]
  obtain ⟨dx, hb⟩ := B.ob
  refine ⟨.ref L.bk, rfl, L.bk, CB, dx, _, _, rfl, hb, T.clB, T.nB_lines, rfl, L.tl, rfl, ⟨_, SqT.of B.tl⟩, for_tup (K := K) (a := L.tl) (xs := [.ref L.lb, .ref L.ls]) (wBoth L m p H) ⟨none, rfl, rfl, fun h => absurd h (by omega), fun h => absurd h (by omega)⟩ (fun i σ H' _ ⟨_, _, e, _⟩ => e ▸ SqT.of B.tl) (fun i y σ H' hi hp => ?_) fun σ H' hp => ?_⟩
  · obtain ⟨v, rfl, eH, h1, h2⟩ := hp
    obtain rfl := eH.symm
    match i, hi, h1, h2 with
    | 0, hi, h1, h2 =>
      obtain rfl : .ref L.lb = y := Option.some.inj hi
      have hl := B.lb
      have od := fun x hx => B.od x (mem_all.mpr (.inl hx))
      have kb := B.ok.b
      cases e : m.buys with
      | nil =>
        rw [e] at hl
        refine ⟨_, rfl, _, .inl ⟨_, SqL.of hl, rfl⟩, iteT (iteT ?_)⟩
        have eb : bothM m p = false := by
          unfold bothM
          rw [e]
        rw [eb] at kk
        exact kk
      | cons x l =>
        rw [e] at hl od kb
        obtain ⟨dx2, hx⟩ := od x (List.mem_cons_self ..)
        refine ⟨_, rfl, _, .inl ⟨_, SqL.of hl, rfl⟩, iteF ⟨_, rfl, _, _, _, _, rfl, rfl, SqL.of hl, at0, _, rfl, x.a, dx2, x.w, (p : Int), rfl, hx, accW x.w p, rfl, ?_⟩⟩
        have ea : accW x.w p = decide (p ≤ x.o.price) := by
          obtain ⟨b1, b2⟩ := kb x (List.mem_cons_self ..)
          have ek : x.w.k = (x.k : Int) := rfl
          have es : x.w.s = 0 := by
            show (if x.o.buy = true then (0 : Int) else 1) = 0
            rw [if_pos b1]
          have ep : x.w.p = (x.o.price : Int) := rfl
          unfold accW
          rw [if_neg (by rw [ek]; omega), if_pos es, ep, Bool.eq_iff_iff, decide_eq_true_eq, decide_eq_true_eq]
          omega
        rw [ea]
        by_cases c : p ≤ x.o.price
        · rw [decide_eq_true c]
          exact iteF ⟨_, rfl, rfl, fun _ => ⟨x, l, e, c⟩, fun h => absurd h (by omega)⟩
        · rw [decide_eq_false c]
          refine iteT ?_
          have eb : bothM m p = false := by
            unfold bothM
            rw [e]
            cases m.sells with
            | nil => rfl
            | cons y l2 =>
              show (decide (p ≤ x.o.price) && _) = false
              rw [decide_eq_false c]
              rfl
          rw [eb] at kk
          exact kk
    | 1, hi, h1, h2 =>
      obtain rfl : .ref L.ls = y := Option.some.inj hi
      have hl := B.ls
      have od := fun x hx => B.od x (mem_all.mpr (.inr (.inl hx)))
      have kb := B.ok.s
      obtain ⟨b, bl, eb0, cb⟩ := h1 (by omega)
      cases e : m.sells with
      | nil =>
        rw [e] at hl
        refine ⟨_, rfl, _, .inl ⟨_, SqL.of hl, rfl⟩, iteT (iteT ?_)⟩
        have eb : bothM m p = false := by
          unfold bothM
          rw [e, eb0]
        rw [eb] at kk
        exact kk
      | cons x l =>
        rw [e] at hl od kb
        obtain ⟨dx2, hx⟩ := od x (List.mem_cons_self ..)
        refine ⟨_, rfl, _, .inl ⟨_, SqL.of hl, rfl⟩, iteF ⟨_, rfl, _, _, _, _, rfl, rfl, SqL.of hl, at0, _, rfl, x.a, dx2, x.w, (p : Int), rfl, hx, accW x.w p, rfl, ?_⟩⟩
        have ea : accW x.w p = decide (x.o.price ≤ p) := by
          obtain ⟨b1, b2⟩ := kb x (List.mem_cons_self ..)
          have ek : x.w.k = (x.k : Int) := rfl
          have es : x.w.s = 1 := by
            show (if x.o.buy = true then (0 : Int) else 1) = 1
            rw [b1]
            rfl
          have ep : x.w.p = (x.o.price : Int) := rfl
          unfold accW
          rw [if_neg (by rw [ek]; omega), if_neg (by omega), ep, Bool.eq_iff_iff, decide_eq_true_eq, decide_eq_true_eq]
          omega
        rw [ea]
        by_cases c : x.o.price ≤ p
        · rw [decide_eq_true c]
          exact iteF ⟨_, rfl, rfl, fun _ => ⟨b, bl, eb0, cb⟩, fun _ => ⟨x, l, e, c⟩⟩
        · rw [decide_eq_false c]
          refine iteT ?_
          have eb : bothM m p = false := by
            unfold bothM
            rw [e, eb0]
            show (_ && decide (x.o.price ≤ p)) = false
            rw [decide_eq_false c, Bool.and_false]
          rw [eb] at kk
          exact kk
  · obtain ⟨v, rfl, eH, h1, h2⟩ := hp
    obtain rfl := eH.symm
    have e1 := h1 (by show 1 ≤ 2; omega)
    have e2 := h2 (by show 2 ≤ 2; omega)
    obtain ⟨x, l, e1, c1⟩ := e1
    obtain ⟨y, l2, e2, c2⟩ := e2
    have e : bothM m p = true := by
      unfold bothM
      rw [e1, e2]
      show (decide (p ≤ x.o.price) && decide (y.o.price ≤ p)) = true
      rw [decide_eq_true c1, decide_eq_true c2]
      rfl
    rw [e] at kk
    exact kk
end
end SB
namespace SB
open PySem PySem.Spec PyProof.Rows L2
section
theorem AmOnly.comp {f g : R → R} (hf : AmOnly f) (hg : AmOnly g) : AmOnly fun r => g (f r) :=
  ⟨fun r => (hg.a _).trans (hf.a _), fun r => (hg.k _).trans (hf.k _), fun r => (hg.t _).trans (hf.t _), fun r => (hg.id _).trans (hf.id _), fun r => (hg.buy _).trans (hf.buy _), fun r => (hg.price _).trans (hf.price _)⟩
theorem mapM_comp (f g : R → R) (m : M) : mapM (fun r => g (f r)) m = mapM g (mapM f m) := by
  show M.mk _ _ _ _ _ = M.mk _ _ _ _ _
  rw [show (mapM f m).buys = m.buys.map f from rfl, show (mapM f m).sells = m.sells.map f from rfl, List.map_map, List.map_map]
  rfl
/-- both heads with their amounts changed -/
theorem re_heads {m : M} (h : MOk m) {x y : R} {bs ss : List R} (a b : Nat) (e1 : m.buys = x :: bs) (e2 : m.sells = y :: ss) : mapM (fun r => reA y.a b (reA x.a a r)) m = { m with buys := setAm x a :: bs, sells := setAm y b :: ss } := by
  rw [mapM_comp]
  have h1 : mapM (reA x.a a) m = m.put true (setAm x a :: bs) := re_head h (buy := true) a e1
  have h2 : MOk (m.put true (setAm x a :: bs)) := h1 ▸ h.mapM (reA_am x.a a)
  rw [h1]
  have h3 : mapM (reA y.a b) (m.put true (setAm x a :: bs)) = (m.put true (setAm x a :: bs)).put false (setAm y b :: ss) := re_head h2 (buy := false) b e2
  rw [h3]
  rfl
theorem cross_stop {m : M} {p : Nat} (k : Nat) (h : bothM m p = false) : crossM p (k + 1) m = (m, []) := by
  unfold bothM at h
  unfold crossM
  cases e1 : m.buys with
  | nil => rfl
  | cons x bs =>
    cases e2 : m.sells with
    | nil => rfl
    | cons y ss =>
      rw [e1, e2] at h
      have h : (decide (p ≤ x.o.price) && decide (y.o.price ≤ p)) = false := h
      show (if x.o.price < p ∨ p < y.o.price then _ else _) = _
      rw [if_pos]
      simp at h
      omega
def nextX (m : M) (p : Nat) (x y : R) (bs ss : List R) : M := { m with buys := if x.o.amount - min x.o.amount y.o.amount = 0 then bs else setAm x (x.o.amount - min x.o.amount y.o.amount) :: bs, sells := if y.o.amount - min x.o.amount y.o.amount = 0 then ss else setAm y (y.o.amount - min x.o.amount y.o.amount) :: ss, last := p }
theorem cross_go {m : M} {p : Nat} (k : Nat) {x y : R} {bs ss : List R} (e1 : m.buys = x :: bs) (e2 : m.sells = y :: ss) (h1 : p ≤ x.o.price) (h2 : y.o.price ≤ p) :
    crossM p (k + 1) m = ((crossM p k (nextX m p x y bs ss)).1, .trade x.o.id y.o.id p (min x.o.amount y.o.amount) (y.o.amount - min x.o.amount y.o.amount) :: (crossM p k (nextX m p x y bs ss)).2) := by
  rw [crossM, e1, e2]
  show (if x.o.price < p ∨ p < y.o.price then _ else _) = _
  rw [if_neg (by omega)]
  rfl
theorem both_heads {m : M} {p : Nat} (h : bothM m p = true) : ∃ x bs y ss, m.buys = x :: bs ∧ m.sells = y :: ss ∧ p ≤ x.o.price ∧ y.o.price ≤ p := by
  unfold bothM at h
  cases e1 : m.buys with
  | nil =>
    rw [e1] at h
    cases h
  | cons x bs =>
    cases e2 : m.sells with
    | nil =>
      rw [e1, e2] at h
      cases h
    | cons y ss =>
      rw [e1, e2] at h
      have h : (decide (p ≤ x.o.price) && decide (y.o.price ≤ p)) = true := h
      rw [Bool.and_eq_true, decide_eq_true_eq, decide_eq_true_eq] at h
      exact ⟨x, bs, y, ss, rfl, rfl, h.1, h.2⟩
theorem cross_len (p : Nat) : ∀ (k : Nat) (m : M), (crossM p k m).2.length ≤ k
  | 0, m => Nat.le_refl _
  | k + 1, m => by
    cases e : bothM m p with
    | false =>
      rw [cross_stop k e]
      exact Nat.zero_le _
    | true =>
      obtain ⟨x, bs, y, ss, e1, e2, h1, h2⟩ := both_heads e
      rw [cross_go k e1 e2 h1 h2]
      exact Nat.succ_le_succ (cross_len p k _)
end
section
variable {P : Program} {w : World} {K : PySem.W.Frag} {mg : Str → Option Value} {base : Heap} {CO CB : Addr}
def spTradeAuction (K : PySem.W.Frag) (CO CB : Addr) : Sp := fun vs H Q _ => ∃ (L : Lay) (m : M) (es : List Int) (k : Nat), vs = [.ref L.bk] ∧ BkAt CO CB L H m es ∧ m.all.length ≤ 2000 ∧ m.buys.length + m.sells.length < k ∧ es.length + 6 * k ≤ 10000000 ∧
  ∀ ps H', (∀ p, p ∈ ps ↔ p ∈ (m.buys ++ m.sells).map fun r => r.o.price) → BkAt CO CB L H' (crossM (clearP m ps) k m).1 (es ++ flat (crossM (clearP m ps) k m).2) → Sub (crossM (clearP m ps) k m).1 m → Fr (foot L m) H H' → Q .non H'
theorem ln_Book_trade_auction {vs : List V} {H : Hp} {Q : VK} {E : XK} (h : spTradeAuction K CO CB vs H Q E) : vs.length = 1 := by
  obtain ⟨L, m, es, k, rfl, _⟩ := h
  rfl
def wCross (L : Lay) (m0 : M) (es0 : List Int) (k0 p : Nat) (H0 : Hp) (CO CB : Addr) (k : Nat) (σ : L2.St) (H' : Hp) : Prop := ∃ (m : M) (pre : List Sd17.Ev) (v2 v3 : Option V), σ = [some (.ref L.bk), some (.int (p : Int)), v2, v3] ∧ BkAt CO CB L H' m (es0 ++ flat pre) ∧
  crossM p k0 m0 = ((crossM p k m).1, pre ++ (crossM p k m).2) ∧ m.buys.length + m.sells.length < k ∧ pre.length + k ≤ k0 ∧ Sub m m0 ∧ Fr (foot L m0) H0 H'
theorem ok_Book_trade_auction {f : Addr} {fd : FuncData} (F : Fun K "trade_auction" "Book.trade_auction" s_Book_trade_auction f fd) (T : Txt K mg CO CB) {f_Book_price_of_auction : Addr} {d_Book_price_of_auction : FuncData} (G_price_of_auction : Gm P w K mg base 2 CB "price_of_auction" f_Book_price_of_auction d_Book_price_of_auction ["self"] (spPriceOfAuction K CO CB)) {f_Book_both_accept : Addr} {d_Book_both_accept : FuncData} (G_both_accept : Gm P w K mg base 2 CB "both_accept" f_Book_both_accept d_Book_both_accept ["self", "price"] (spBothAccept K CO CB)) {f_Book_exchange : Addr} {d_Book_exchange : FuncData} (G_exchange : Gm P w K mg base 2 CB "exchange" f_Book_exchange d_Book_exchange ["self", "order", "other", "price"] (spExchange K CO CB)) {f_Book_take_out_if_empty : Addr} {d_Book_take_out_if_empty : FuncData} (G_take_out_if_empty : Gm P w K mg base 3 CB "take_out_if_empty" f_Book_take_out_if_empty d_Book_take_out_if_empty ["self", "order"] (spTakeOutIfEmpty K CO CB)) : FnOk P w K mg base CX0 4 f fd ["self"] (spTradeAuction K CO CB) := by
  refine F.ok sc_Book_trade_auction (fun vs H Q E h => ln_Book_trade_auction h) (fun cdv A outer s H vs Q E hr h => ?_)
  have hu := hu_of hr
  refine ⟨_, (pss_cons (ps_set (i := 1) sc_Book_trade_auction.nd rfl (Or.inl rfl) (pe_meth0 (pv 0) T.clB G_price_of_auction.m G_price_of_auction.ok (hr.mono (by decide)) G_price_of_auction.b .nil pass0))
    (pss_one (ps_while PassesOwn.never (pt_val (pe_meth (pv 0) T.clB G_both_accept.m G_both_accept.ok (hr.mono (by decide)) G_both_accept.b .nil pass0 (pa_cons (pv 1) pa_nil)))
      (pss_cons (ps_set (i := 2) sc_Book_trade_auction.nd rfl (Or.inl rfl) (pe_ix ix_list (pe_ix ix_tup (pe_fld (pv 0) rfl) (pg_int rfl T.c_BUYS) (fun _ _ => rfl)) pe_int (fun _ _ => rfl)))
        (pss_cons (ps_set (i := 3) sc_Book_trade_auction.nd rfl (Or.inl rfl) (pe_ix ix_list (pe_ix ix_tup (pe_fld (pv 0) rfl) (pg_int rfl T.c_SELLS) (fun _ _ => rfl)) pe_int (fun _ _ => rfl)))
        (pss_cons (ps_expr (pe_meth (pv 0) T.clB G_exchange.m G_exchange.ok (hr.mono (by decide)) G_exchange.b .nil pass0 (pa_cons (pv 2) (pa_cons (pv 3) (pa_cons (pv 1) pa_nil)))))
        (pss_cons (ps_expr (pe_meth (pv 0) T.clB G_take_out_if_empty.m G_take_out_if_empty.ok (hr.mono (by decide)) G_take_out_if_empty.b .nil pass0 (pa_cons (pv 2) pa_nil)))
        (pss_one (ps_expr (pe_meth (pv 0) T.clB G_take_out_if_empty.m G_take_out_if_empty.ok (hr.mono (by decide)) G_take_out_if_empty.b .nil pass0 (pa_cons (pv 3) pa_nil))))))))))), ?_⟩

  obtain ⟨L, m0, es0, k0, rfl, B0, hm, hk0, hz, kk⟩ := h
  rw [show L2.start ["self", "price", "buyer", "seller"] [V.ref L.bk] = [some (.ref L.bk), none, none, none] from rfl]
  obtain ⟨dx0, hb0⟩ := B0.ob
  refine ⟨.ref L.bk, rfl, L.bk, dx0, _, rfl, hb0, bF_no_price_of_auction _ _ _, L, m0, es0, rfl, B0, hm, fun ps H1 hps f1 => ?_⟩
  have kk := fun H' => kk ps H' hps
  generalize clearP m0 ps = p at kk
  have B1 := B0.keep0 f1
  refine ⟨wCross L m0 es0 k0 p H CO CB, ⟨k0, m0, [], none, none, rfl, by rw [show flat [] = [] from rfl, List.append_nil]; exact B1, rfl, hk0, by rw [List.length_nil]; omega, Sub.refl m0, f1.mono fun b hb => nomatch hb⟩, ?_⟩
  rintro k σ H2 ⟨m, pre, v2, v3, rfl, B, eq, hk, hpk, sub, fr⟩
  cases k with
  | zero => omega
  | succ k =>
  obtain ⟨dx, hb⟩ := B.ob
  refine ⟨.ref L.bk, rfl, L.bk, dx, _, rfl, hb, bF_no_both_accept _ _ _, _, rfl, L, m, _, p, rfl, B, _, rfl, ?_⟩
  cases e : bothM m p with
  | false =>
    rw [cross_stop k e, List.append_nil] at eq
    rw [eq] at kk
    exact iteF (kk H2 B sub fr)
  | true =>
    refine iteT ⟨_, fun _ _ n => n, ?_⟩
    obtain ⟨x, bs, y, ss, e1, e2, h1, h2⟩ := both_heads e
    rw [cross_go k e1 e2 h1 h2] at eq
    have xa : x ∈ m.all := mem_all.mpr (.inl (by rw [e1]; exact List.mem_cons_self ..))
    have ya : y ∈ m.all := mem_all.mpr (.inr (.inl (by rw [e2]; exact List.mem_cons_self ..)))
    obtain ⟨dxx, hx⟩ := B.od x xa
    obtain ⟨dy, hy⟩ := B.od y ya
    have hlb := B.lb
    have hls := B.ls
    rw [e1] at hlb
    rw [e2] at hls
    have nxy : x.a ≠ y.a := (addr_parts B.ok).2.2.2.1 x (by rw [e1]; exact List.mem_cons_self ..) y (by rw [e2]; exact List.mem_cons_self ..)
    simp only [cxOf, Cx.nox, tSeq, tNext, tRet, tRetN, tDrop, tIfS, tVar, tC, tOp, tUn, tTest, tB, tAnd, tOr, tNot, tAndV, tOrV, tNotV, tIf, tFld, sFld, sFldAug, tAsg, gName, tAug, tCons, tNil, tCB, tCall, tMeth, tChain, sDPut, tDGet, tDIn, tDNotIn, tDGet1, tDPop1, tBM, tBM0, tLst, tTup, tDNewK, rI0, rI, CDiv, rU, L2.rAdd, L2.rSub, ipI, List.getElem?_cons_zero, List.getElem?_cons_succ, List.set_cons_zero, List.set_cons_succ, Option.some.injEq, exists_eq_left', exists_eq_left, V.ref.injEq, V.int.injEq, V.bl.injEq, HO.ins.injEq, HO.lst.injEq, HO.dK.injEq, HO.tup.injEq, and_assoc, true_and, and_true, exists_and_left, List.cons.injEq, List.append_nil, List.cons_append, List.nil_append, x_eq, x_ne, oF_inj, if_true, if_false, Bool.false_eq_true, ite_true, ite_false, eq_self_iff_true, T.clO, T.nO_number, T.nO_who, T.nO_side, T.nO_kind, T.nO_price, T.nO_amount, T.nO_trigger, oF_number, oF_who, oF_side, oF_kind, oF_price, oF_amount, oF_trigger, oF_put_number, oF_put_who, oF_put_side, oF_put_kind, oF_put_price, oF_put_amount, oF_put_trigger, T.clB, T.nB_lines, T.nB_waiting, T.nB_known, T.nB_latest, T.nB_in_auction, T.nB_events, bF_lines, bF_waiting, bF_known, bF_latest, bF_in_auction, bF_events, bF_put_latest, bF_put_in_auction, bF_put_events, hb]
    refine ix_t B.tl at0 (ix_l hlb at0 ?_)
    simp only [cxOf, Cx.nox, tSeq, tNext, tRet, tRetN, tDrop, tIfS, tVar, tC, tOp, tUn, tTest, tB, tAnd, tOr, tNot, tAndV, tOrV, tNotV, tIf, tFld, sFld, sFldAug, tAsg, gName, tAug, tCons, tNil, tCB, tCall, tMeth, tChain, sDPut, tDGet, tDIn, tDNotIn, tDGet1, tDPop1, tBM, tBM0, tLst, tTup, tDNewK, rI0, rI, CDiv, rU, L2.rAdd, L2.rSub, ipI, List.getElem?_cons_zero, List.getElem?_cons_succ, List.set_cons_zero, List.set_cons_succ, Option.some.injEq, exists_eq_left', exists_eq_left, V.ref.injEq, V.int.injEq, V.bl.injEq, HO.ins.injEq, HO.lst.injEq, HO.dK.injEq, HO.tup.injEq, and_assoc, true_and, and_true, exists_and_left, List.cons.injEq, List.append_nil, List.cons_append, List.nil_append, x_eq, x_ne, oF_inj, if_true, if_false, Bool.false_eq_true, ite_true, ite_false, eq_self_iff_true, T.clO, T.nO_number, T.nO_who, T.nO_side, T.nO_kind, T.nO_price, T.nO_amount, T.nO_trigger, oF_number, oF_who, oF_side, oF_kind, oF_price, oF_amount, oF_trigger, oF_put_number, oF_put_who, oF_put_side, oF_put_kind, oF_put_price, oF_put_amount, oF_put_trigger, T.clB, T.nB_lines, T.nB_waiting, T.nB_known, T.nB_latest, T.nB_in_auction, T.nB_events, bF_lines, bF_waiting, bF_known, bF_latest, bF_in_auction, bF_events, bF_put_latest, bF_put_in_auction, bF_put_events, hb]
    refine ix_t B.tl (atI_nat (j := 1) rfl) (ix_l hls at0 ?_)
    simp only [cxOf, Cx.nox, tSeq, tNext, tRet, tRetN, tDrop, tIfS, tVar, tC, tOp, tUn, tTest, tB, tAnd, tOr, tNot, tAndV, tOrV, tNotV, tIf, tFld, sFld, sFldAug, tAsg, gName, tAug, tCons, tNil, tCB, tCall, tMeth, tChain, sDPut, tDGet, tDIn, tDNotIn, tDGet1, tDPop1, tBM, tBM0, tLst, tTup, tDNewK, rI0, rI, CDiv, rU, L2.rAdd, L2.rSub, ipI, List.getElem?_cons_zero, List.getElem?_cons_succ, List.set_cons_zero, List.set_cons_succ, Option.some.injEq, exists_eq_left', exists_eq_left, V.ref.injEq, V.int.injEq, V.bl.injEq, HO.ins.injEq, HO.lst.injEq, HO.dK.injEq, HO.tup.injEq, and_assoc, true_and, and_true, exists_and_left, List.cons.injEq, List.append_nil, List.cons_append, List.nil_append, x_eq, x_ne, oF_inj, if_true, if_false, Bool.false_eq_true, ite_true, ite_false, eq_self_iff_true, T.clO, T.nO_number, T.nO_who, T.nO_side, T.nO_kind, T.nO_price, T.nO_amount, T.nO_trigger, oF_number, oF_who, oF_side, oF_kind, oF_price, oF_amount, oF_trigger, oF_put_number, oF_put_who, oF_put_side, oF_put_kind, oF_put_price, oF_put_amount, oF_put_trigger, T.clB, T.nB_lines, T.nB_waiting, T.nB_known, T.nB_latest, T.nB_in_auction, T.nB_events, bF_lines, bF_waiting, bF_known, bF_latest, bF_in_auction, bF_events, bF_put_latest, bF_put_in_auction, bF_put_events, hb, bF_no_exchange, R.v]
    have evl : (es0 ++ flat pre).length ≤ 10000000 := by
      rw [List.length_append, flat_len]
      omega
    refine ⟨L, _, _, x.a, y.a, x.w, y.w, p, rfl, B, ⟨dxx, hx⟩, ⟨dy, hy⟩, nxy, evl, fun H3 hb3 hx3 hy3 he3 f3 => ?_⟩
    have Ax := B.ao ⟨dxx, hx⟩
    have Ay := B.ao ⟨dy, hy⟩
    have AP := B.ap
    have en : (if y.w.m < x.w.m then y.w.m else x.w.m) = ((min x.o.amount y.o.amount : Nat) : Int) := min_int x.o.amount y.o.amount
    rw [en] at hx3 hy3 he3
    generalize hn : min x.o.amount y.o.amount = n at hx3 hy3 he3 eq
    have ex : ({ x.w with m := x.w.m - (n : Int) } : W) = (setAm x (x.o.amount - n)).w := by
      rw [setAm_w]
      have : x.w.m - (n : Int) = ((x.o.amount - n : Nat) : Int) := by
        show (x.o.amount : Int) - n = _
        omega
      rw [this]
    have ey : ({ y.w with m := y.w.m - (n : Int) } : W) = (setAm y (y.o.amount - n)).w := by
      rw [setAm_w]
      have : y.w.m - (n : Int) = ((y.o.amount - n : Nat) : Int) := by
        show (y.o.amount : Int) - n = _
        omega
      rw [this]
    rw [ex] at hx3
    rw [ey] at hy3
    -- the book with both amounts changed
    have B3 : BkAt CO CB L H3 { m with buys := setAm x (x.o.amount - n) :: bs, sells := setAm y (y.o.amount - n) :: ss, last := p } (es0 ++ flat (pre ++ [.trade x.o.id y.o.id p n (y.o.amount - n)])) := by
      have hre := B.re ((reA_am x.a (x.o.amount - n)).comp (reA_am y.a (y.o.amount - n))) hb3 he3 (fun q hq => ?_) f3 fun b hb => ?_
      · rw [re_heads B.ok (x.o.amount - n) (y.o.amount - n) e1 e2] at hre
        rw [flat_snoc, ← List.append_assoc]
        have : ((Sd17.numbers (.trade x.o.id y.o.id p n (y.o.amount - n))).map fun (x : Nat) => (x : Int)) = [1, x.w.n, y.w.n, (p : Int), (n : Int), y.w.m - (n : Int)] := by
          show [(1 : Int), (x.o.id : Int), (y.o.id : Int), (p : Int), (n : Int), ((y.o.amount - n : Nat) : Int)] = [1, (x.o.id : Int), (y.o.id : Int), (p : Int), (n : Int), (y.o.amount : Int) - (n : Int)]
          have : ((y.o.amount - n : Nat) : Int) = (y.o.amount : Int) - (n : Int) := by omega
          rw [this]
        rw [this]
        exact hre
      · have key : ∀ z ∈ m.all, OAt CO H3 (reA y.a (y.o.amount - n) (reA x.a (x.o.amount - n) z)).a (reA y.a (y.o.amount - n) (reA x.a (x.o.amount - n) z)).w := fun z hz => by
          by_cases cx : z.a = x.a
          · have : z = x := nodup_inj B.ok.addr hz xa cx
            subst this
            have e5 : reA y.a (y.o.amount - n) (reA z.a (z.o.amount - n) z) = setAm z (z.o.amount - n) := by
              rw [show reA z.a (z.o.amount - n) z = setAm z (z.o.amount - n) from if_pos rfl]
              exact if_neg nxy
            rw [e5]
            exact hx3
          · rw [show reA x.a (x.o.amount - n) z = z from if_neg cx]
            by_cases cy : z.a = y.a
            · have : z = y := nodup_inj B.ok.addr hz ya cy
              subst this
              rw [show reA z.a (z.o.amount - n) z = setAm z (z.o.amount - n) from if_pos rfl]
              exact hy3
            · rw [show reA y.a (y.o.amount - n) z = z from if_neg cy]
              obtain ⟨dz, hz2⟩ := B.od z hz
              have Az := B.ao ⟨dz, hz2⟩
              exact ⟨dz, fr_at f3 hz2 fun b hb => by
                simp only [List.mem_cons, List.not_mem_nil, or_false] at hb
                rcases hb with rfl | rfl | rfl | rfl
                · exact cx
                · exact cy
                · exact Az.bk
                · exact Az.ev⟩
        have hq : q ∈ (m.buys.map fun r => reA y.a (y.o.amount - n) (reA x.a (x.o.amount - n) r)) ++ (m.sells.map fun r => reA y.a (y.o.amount - n) (reA x.a (x.o.amount - n) r)) ++ m.waits := hq
        rcases List.mem_append.mp hq with h | h
        · rcases List.mem_append.mp h with h | h
          · obtain ⟨z, hz, rfl⟩ := List.mem_map.mp h
            exact key z (mem_all.mpr (.inl hz))
          · obtain ⟨z, hz, rfl⟩ := List.mem_map.mp h
            exact key z (mem_all.mpr (.inr (.inl hz)))
        · have hqa := mem_all.mpr (.inr (.inr h))
          have := key q hqa
          have q1 : q.a ≠ x.a := Ne.symm ((addr_parts B.ok).2.2.2.2.1 x (by rw [e1]; exact List.mem_cons_self ..) q h)
          have q2 : q.a ≠ y.a := Ne.symm ((addr_parts B.ok).2.2.2.2.2 y (by rw [e2]; exact List.mem_cons_self ..) q h)
          rw [show reA x.a (x.o.amount - n) q = q from if_neg q1, show reA y.a (y.o.amount - n) q = q from if_neg q2] at this
          exact this
      · simp only [List.mem_cons, List.not_mem_nil, or_false] at hb
        rcases hb with rfl | rfl | rfl | rfl
        · exact ⟨Ax.tl, Ax.lb, Ax.ls, Ax.wl, Ax.kd⟩
        · exact ⟨Ay.tl, Ay.lb, Ay.ls, Ay.wl, Ay.kd⟩
        · exact ⟨AP.bk_tl, AP.bk_lb, AP.bk_ls, AP.bk_wl, AP.bk_kd⟩
        · exact ⟨AP.ev_tl, AP.ev_lb, AP.ev_ls, AP.ev_wl, AP.ev_kd⟩
    have sub3 : Sub { m with buys := setAm x (x.o.amount - n) :: bs, sells := setAm y (y.o.amount - n) :: ss, last := p } m0 := by
      have := sub_mapM ((reA_am x.a (x.o.amount - n)).comp (reA_am y.a (y.o.amount - n))) m p
      rw [re_heads B.ok (x.o.amount - n) (y.o.amount - n) e1 e2] at this
      exact this.trans sub
    have fr3 : Fr (foot L m0) H H3 := fr.trans f3 (fun b hb => .inl hb) fun b hb => .inl (by
      simp only [List.mem_cons, List.not_mem_nil, or_false] at hb
      rcases hb with rfl | rfl | rfl | rfl
      · exact sub.foot (foot_od xa)
      · exact sub.foot (foot_od ya)
      · exact foot_own (.inl rfl)
      · exact foot_own (.inr (.inr (.inr (.inr (.inr rfl))))))
    have fourF : ∀ {b : Addr}, b ∈ [L.lb, L.ls, L.wl, L.kd] → b ∈ foot L m0 := fun hb => foot_own (by
      simp only [List.mem_cons, List.not_mem_nil, or_false] at hb
      rcases hb with h | h | h | h
      · exact .inr (.inl h)
      · exact .inr (.inr (.inl h))
      · exact .inr (.inr (.inr (.inl h)))
      · exact .inr (.inr (.inr (.inr (.inl h)))))
    obtain ⟨dx3, hb3⟩ := B3.ob
    simp only [cxOf, Cx.nox, tSeq, tNext, tRet, tRetN, tDrop, tIfS, tVar, tC, tOp, tUn, tTest, tB, tAnd, tOr, tNot, tAndV, tOrV, tNotV, tIf, tFld, sFld, sFldAug, tAsg, gName, tAug, tCons, tNil, tCB, tCall, tMeth, tChain, sDPut, tDGet, tDIn, tDNotIn, tDGet1, tDPop1, tBM, tBM0, tLst, tTup, tDNewK, rI0, rI, CDiv, rU, L2.rAdd, L2.rSub, ipI, List.getElem?_cons_zero, List.getElem?_cons_succ, List.set_cons_zero, List.set_cons_succ, Option.some.injEq, exists_eq_left', exists_eq_left, V.ref.injEq, V.int.injEq, V.bl.injEq, HO.ins.injEq, HO.lst.injEq, HO.dK.injEq, HO.tup.injEq, and_assoc, true_and, and_true, exists_and_left, List.cons.injEq, List.append_nil, List.cons_append, List.nil_append, x_eq, x_ne, oF_inj, if_true, if_false, Bool.false_eq_true, ite_true, ite_false, eq_self_iff_true, T.clO, T.nO_number, T.nO_who, T.nO_side, T.nO_kind, T.nO_price, T.nO_amount, T.nO_trigger, oF_number, oF_who, oF_side, oF_kind, oF_price, oF_amount, oF_trigger, oF_put_number, oF_put_who, oF_put_side, oF_put_kind, oF_put_price, oF_put_amount, oF_put_trigger, T.clB, T.nB_lines, T.nB_waiting, T.nB_known, T.nB_latest, T.nB_in_auction, T.nB_events, bF_lines, bF_waiting, bF_known, bF_latest, bF_in_auction, bF_events, bF_put_latest, bF_put_in_auction, bF_put_events, hb3, bF_no_take_out_if_empty]
    refine ⟨L, _, _, setAm x (x.o.amount - n), rfl, B3, mem_all.mpr (.inl (List.mem_cons_self ..)), fun H4 B4 f4 => ?_⟩
    have sub4 : Sub (emptyM (setAm x (x.o.amount - n)) { m with buys := setAm x (x.o.amount - n) :: bs, sells := setAm y (y.o.amount - n) :: ss, last := p }) m0 := by
      unfold emptyM
      split
      · exact (sub_del _ _).trans sub3
      · exact sub3
    have em4 : emptyM (setAm x (x.o.amount - n)) { m with buys := setAm x (x.o.amount - n) :: bs, sells := setAm y (y.o.amount - n) :: ss, last := p } = { m with buys := if x.o.amount - n = 0 then bs else setAm x (x.o.amount - n) :: bs, sells := setAm y (y.o.amount - n) :: ss, last := p } := by
      unfold emptyM
      show (if x.o.amount - n = 0 then _ else _) = _
      by_cases c : x.o.amount - n = 0
      · rw [if_pos c, if_pos c]
        exact del_head B3.ok (buy := true) rfl
      · rw [if_neg c, if_neg c]
    rw [em4] at B4 sub4
    obtain ⟨dx4, hb4⟩ := B4.ob
    simp only [cxOf, Cx.nox, tSeq, tNext, tRet, tRetN, tDrop, tIfS, tVar, tC, tOp, tUn, tTest, tB, tAnd, tOr, tNot, tAndV, tOrV, tNotV, tIf, tFld, sFld, sFldAug, tAsg, gName, tAug, tCons, tNil, tCB, tCall, tMeth, tChain, sDPut, tDGet, tDIn, tDNotIn, tDGet1, tDPop1, tBM, tBM0, tLst, tTup, tDNewK, rI0, rI, CDiv, rU, L2.rAdd, L2.rSub, ipI, List.getElem?_cons_zero, List.getElem?_cons_succ, List.set_cons_zero, List.set_cons_succ, Option.some.injEq, exists_eq_left', exists_eq_left, V.ref.injEq, V.int.injEq, V.bl.injEq, HO.ins.injEq, HO.lst.injEq, HO.dK.injEq, HO.tup.injEq, and_assoc, true_and, and_true, exists_and_left, List.cons.injEq, List.append_nil, List.cons_append, List.nil_append, x_eq, x_ne, oF_inj, if_true, if_false, Bool.false_eq_true, ite_true, ite_false, eq_self_iff_true, T.clO, T.nO_number, T.nO_who, T.nO_side, T.nO_kind, T.nO_price, T.nO_amount, T.nO_trigger, oF_number, oF_who, oF_side, oF_kind, oF_price, oF_amount, oF_trigger, oF_put_number, oF_put_who, oF_put_side, oF_put_kind, oF_put_price, oF_put_amount, oF_put_trigger, T.clB, T.nB_lines, T.nB_waiting, T.nB_known, T.nB_latest, T.nB_in_auction, T.nB_events, bF_lines, bF_waiting, bF_known, bF_latest, bF_in_auction, bF_events, bF_put_latest, bF_put_in_auction, bF_put_events, hb4, bF_no_take_out_if_empty]
    refine ⟨L, _, _, setAm y (y.o.amount - n), rfl, B4, mem_all.mpr (.inr (.inl (List.mem_cons_self ..))), fun H5 B5 f5 => ?_⟩
    have em5 : emptyM (setAm y (y.o.amount - n)) { m with buys := if x.o.amount - n = 0 then bs else setAm x (x.o.amount - n) :: bs, sells := setAm y (y.o.amount - n) :: ss, last := p } = nextX m p x y bs ss := by
      unfold emptyM nextX
      rw [hn]
      show (if y.o.amount - n = 0 then _ else _) = _
      by_cases c : y.o.amount - n = 0
      · rw [if_pos c, if_pos c]
        exact del_head B4.ok (buy := false) rfl
      · rw [if_neg c, if_neg c]
    have sub5 : Sub (emptyM (setAm y (y.o.amount - n)) { m with buys := if x.o.amount - n = 0 then bs else setAm x (x.o.amount - n) :: bs, sells := setAm y (y.o.amount - n) :: ss, last := p }) m0 := by
      unfold emptyM
      split
      · exact (sub_del _ _).trans sub4
      · exact sub4
    rw [em5] at B5 sub5
    refine ⟨k, Nat.lt_succ_self k, nextX m p x y bs ss, pre ++ [.trade x.o.id y.o.id p n (y.o.amount - n)], _, _, rfl, B5, ?_, ?_, ?_, sub5, (fr3.trans f4 (fun b hb => .inl hb) fun b hb => .inl (fourF hb)).trans f5 (fun b hb => .inl hb) fun b hb => .inl (fourF hb)⟩
    · rw [eq, List.append_assoc]
      rfl
    · have h3 : (nextX m p x y bs ss).buys.length + (nextX m p x y bs ss).sells.length < m.buys.length + m.sells.length := by
        rw [e1, e2]
        unfold nextX
        show (if _ then _ else _ : List R).length + (if _ then _ else _ : List R).length < (x :: bs).length + (y :: ss).length
        rw [hn]
        rcases (show x.o.amount - n = 0 ∨ y.o.amount - n = 0 by omega) with h | h
        · rw [if_pos h, List.length_cons, List.length_cons]
          split
          · omega
          · rw [List.length_cons]
            omega
        · rw [if_pos h, List.length_cons, List.length_cons]
          split
          · omega
          · rw [List.length_cons]
            omega
      omega
    · rw [List.length_append, List.length_cons, List.length_nil]
      omega
end
end SB
namespace SB
open PySem PySem.Spec PyProof.Rows L2
section
variable {P : Program} {w : World} {K : PySem.W.Frag} {mg : Str → Option Value} {base : Heap} {CO CB : Addr}
theorem BkAt.waited {L : Lay} {H H' : Hp} {m : M} {es : List Int} {r : R} (h : BkAt CO CB L H m es) (ho : OAt CO H r.a r.w) (out : Out r m) (hk : (r.k = 5 ∨ r.k = 6) ∧ r.k = r.o.kind ∧ r.t = (r.o.trigger : Int)) {kvs : List (Key × V)} (hl : H' L.wl = some (.lst (m.waits.map R.v ++ [.ref r.a])))
    (hd : H L.kd = some (.dK kvs)) (hd' : H' L.kd = some (.dK (putK kvs (Sum.inl (r.o.id : Int) : Key) (.ref r.a)))) (f : Fr [L.wl, L.kd] H H') : BkAt CO CB L H' (putW r m) es := by
  have A := h.ap
  have Ar := h.ao ho
  have O := fun x hx => (h.ao (h.od x hx))
  have hn := h.ok.putW out.a out.id hk
  obtain ⟨⟨dx, ob⟩, tl, lb, ls, wl, ⟨kvs2, kd, kn⟩, ev, od, ne, ok⟩ := h
  rw [hd] at kd
  cases kd
  have g : ∀ {b : Addr} {o : HO}, H b = some o → b ≠ L.wl → b ≠ L.kd → H' b = some o := fun e h1 h2 => fr_at f e fun x hx => by
    simp only [List.mem_cons, List.not_mem_nil, or_false] at hx
    rcases hx with rfl | rfl
    · exact h1
    · exact h2
  refine ⟨⟨dx, g ob A.bk_wl A.bk_kd⟩, g tl A.tl_wl A.tl_kd, g lb A.lb_wl A.lb_kd, g ls A.ls_wl A.ls_kd, ?_, ⟨_, hd', kn.put out.id (putW_perm r m)⟩, g ev A.ev_wl A.ev_kd, fun x hx => ?_, ne, hn⟩
  · rw [hl]
    show _ = some (HO.lst ((m.waits ++ [r]).map R.v))
    rw [List.map_append]
    rfl
  · rcases List.mem_cons.mp ((putW_perm r m).mem_iff.mp hx) with e | e
    · rw [e]
      obtain ⟨dr, hr⟩ := ho
      exact ⟨dr, g hr Ar.wl Ar.kd⟩
    · obtain ⟨dr, hr⟩ := od x e
      exact ⟨dr, g hr (O x e).wl (O x e).kd⟩
theorem foot_put {L : Lay} {r : R} {m : M} {b : Addr} (h : b ∈ foot L (putW r m)) : b ∈ r.a :: foot L m := by
  unfold foot at h ⊢
  rcases List.mem_append.mp h with h | h
  · exact List.mem_cons_of_mem _ (List.mem_append.mpr (.inl h))
  · obtain ⟨x, hx, rfl⟩ := List.mem_map.mp h
    rcases List.mem_cons.mp ((putW_perm r m).mem_iff.mp hx) with e | e
    · rw [e]
      exact List.mem_cons_self ..
    · exact List.mem_cons_of_mem _ (List.mem_append.mpr (.inr (List.mem_map.mpr ⟨x, e, rfl⟩)))
def spWait (K : PySem.W.Frag) (CO CB : Addr) : Sp := fun vs H Q _ => ∃ (L : Lay) (m : M) (es : List Int) (r : R), vs = [.ref L.bk, .ref r.a] ∧ BkAt CO CB L H m es ∧ OAt CO H r.a r.w ∧ Out r m ∧ ((r.k = 5 ∨ r.k = 6) ∧ r.k = r.o.kind ∧ r.t = (r.o.trigger : Int)) ∧ m.all.length ≤ 2000 ∧ (es ++ flat (waitM r m).2).length ≤ 10000000 ∧
  ∀ H', BkAt CO CB L H' (waitM r m).1 (es ++ flat (waitM r m).2) → Fr (r.a :: foot L m) H H' → Q .non H'
theorem ln_Book_wait {vs : List V} {H : Hp} {Q : VK} {E : XK} (h : spWait K CO CB vs H Q E) : vs.length = 2 := by
  obtain ⟨L, m, es, r, rfl, _⟩ := h
  rfl
theorem ok_Book_wait {f : Addr} {fd : FuncData} (F : Fun K "wait" "Book.wait" s_Book_wait f fd) (T : Txt K mg CO CB) {f_Book_trigger_stops : Addr} {d_Book_trigger_stops : FuncData} (G_trigger_stops : Gm P w K mg base 6 CB "trigger_stops" f_Book_trigger_stops d_Book_trigger_stops ["self"] (spTriggerStops K CO CB)) : FnOk P w K mg base CX0 7 f fd ["self", "stop"] (spWait K CO CB) := by
  refine F.ok sc_Book_wait (fun vs H Q E h => ln_Book_wait h) (fun cdv A outer s H vs Q E hr h => ?_)
  have hu := hu_of hr
  refine ⟨_, (pss_cons (ps_expr (pe_bm PySem.F.plainAttrs_list PySem.F.slot_list_append PySem.F.type_list_append mt_append (pe_fld (pv 0) rfl) (pa_cons (pv 1) pa_nil)))
    (pss_cons (ps_dput hu (pe_fld (pv 0) rfl) (pe_fld (pv 1) rfl) (pv 1) rfl)
    (pss_one (ps_if (pt_not (pt_val (pe_fld (pv 0) rfl)))
      (pss_one (ps_expr (pe_meth0 (pv 0) T.clB G_trigger_stops.m G_trigger_stops.ok (hr.mono (by decide)) G_trigger_stops.b .nil pass0)))
      pss_nil)))), ?_⟩

  obtain ⟨L, m, es, r, rfl, B, ⟨dr, hr⟩, out, hk, hm, hz, kk⟩ := h
  rw [show L2.start ["self", "stop"] [V.ref L.bk, V.ref r.a] = [some (.ref L.bk), some (.ref r.a)] from rfl]
  have AP := B.ap
  have Ar := B.ao ⟨dr, hr⟩
  obtain ⟨dx, hb⟩ := B.ob
  obtain ⟨kvs, hd, kn⟩ := B.kd
  have hwl := B.wl
  have ty := tyL (K := K) hwl
  simp only [cxOf, Cx.nox, tSeq, tNext, tRet, tRetN, tDrop, tIfS, tVar, tC, tOp, tUn, tTest, tB, tAnd, tOr, tNot, tAndV, tOrV, tNotV, tIf, tFld, sFld, sFldAug, tAsg, gName, tAug, tCons, tNil, tCB, tCall, tMeth, tChain, sDPut, tDGet, tDIn, tDNotIn, tDGet1, tDPop1, tBM, tBM0, tLst, tTup, tDNewK, rI0, rI, CDiv, rU, L2.rAdd, L2.rSub, ipI, List.getElem?_cons_zero, List.getElem?_cons_succ, List.set_cons_zero, List.set_cons_succ, Option.some.injEq, exists_eq_left', exists_eq_left, V.ref.injEq, V.int.injEq, V.bl.injEq, HO.ins.injEq, HO.lst.injEq, HO.dK.injEq, HO.tup.injEq, and_assoc, true_and, and_true, exists_and_left, List.cons.injEq, List.append_nil, List.cons_append, List.nil_append, x_eq, x_ne, oF_inj, if_true, if_false, Bool.false_eq_true, ite_true, ite_false, eq_self_iff_true, T.clO, T.nO_number, T.nO_who, T.nO_side, T.nO_kind, T.nO_price, T.nO_amount, T.nO_trigger, oF_number, oF_who, oF_side, oF_kind, oF_price, oF_amount, oF_trigger, oF_put_number, oF_put_who, oF_put_side, oF_put_kind, oF_put_price, oF_put_amount, oF_put_trigger, T.clB, T.nB_lines, T.nB_waiting, T.nB_known, T.nB_latest, T.nB_in_auction, T.nB_events, bF_lines, bF_waiting, bF_known, bF_latest, bF_in_auction, bF_events, bF_put_latest, bF_put_in_auction, bF_put_events, hb, hr, tBM, rAppend, ty, hwl]
  refine ⟨by rw [List.length_map]; exact big (by unfold M.all at hm; rw [List.length_append] at hm; omega), ?_⟩
  have hb2 := (upd_ne (o := .lst (m.waits.map SB.R.v ++ [V.ref r.a])) AP.bk_wl).trans hb
  have hr2 := (upd_ne (o := .lst (m.waits.map SB.R.v ++ [V.ref r.a])) Ar.wl).trans hr
  have hd2 := (upd_ne (o := .lst (m.waits.map SB.R.v ++ [V.ref r.a])) AP.kd_wl).trans hd
  simp only [cxOf, Cx.nox, tSeq, tNext, tRet, tRetN, tDrop, tIfS, tVar, tC, tOp, tUn, tTest, tB, tAnd, tOr, tNot, tAndV, tOrV, tNotV, tIf, tFld, sFld, sFldAug, tAsg, gName, tAug, tCons, tNil, tCB, tCall, tMeth, tChain, sDPut, tDGet, tDIn, tDNotIn, tDGet1, tDPop1, tBM, tBM0, tLst, tTup, tDNewK, rI0, rI, CDiv, rU, L2.rAdd, L2.rSub, ipI, List.getElem?_cons_zero, List.getElem?_cons_succ, List.set_cons_zero, List.set_cons_succ, Option.some.injEq, exists_eq_left', exists_eq_left, V.ref.injEq, V.int.injEq, V.bl.injEq, HO.ins.injEq, HO.lst.injEq, HO.dK.injEq, HO.tup.injEq, and_assoc, true_and, and_true, exists_and_left, List.cons.injEq, List.append_nil, List.cons_append, List.nil_append, x_eq, x_ne, oF_inj, if_true, if_false, Bool.false_eq_true, ite_true, ite_false, eq_self_iff_true, T.clO, T.nO_number, T.nO_who, T.nO_side, T.nO_kind, T.nO_price, T.nO_amount, T.nO_trigger, oF_number, oF_who, oF_side, oF_kind, oF_price, oF_amount, oF_trigger, oF_put_number, oF_put_who, oF_put_side, oF_put_kind, oF_put_price, oF_put_amount, oF_put_trigger, T.clB, T.nB_lines, T.nB_waiting, T.nB_known, T.nB_latest, T.nB_in_auction, T.nB_events, bF_lines, bF_waiting, bF_known, bF_latest, bF_in_auction, bF_events, bF_put_latest, bF_put_in_auction, bF_put_events, hb2, hr2]
  have hb3 := (upd_ne (o := .dK (putK kvs (Sum.inl (r.o.id : Int) : Key) (.ref r.a))) AP.bk_kd).trans hb2
  refine ⟨_, DPut.k (k := Sum.inl (r.o.id : Int)) hd2 (big (by rw [kn.len]; omega)), ?_⟩
  simp only [cxOf, Cx.nox, tSeq, tNext, tRet, tRetN, tDrop, tIfS, tVar, tC, tOp, tUn, tTest, tB, tAnd, tOr, tNot, tAndV, tOrV, tNotV, tIf, tFld, sFld, sFldAug, tAsg, gName, tAug, tCons, tNil, tCB, tCall, tMeth, tChain, sDPut, tDGet, tDIn, tDNotIn, tDGet1, tDPop1, tBM, tBM0, tLst, tTup, tDNewK, rI0, rI, CDiv, rU, L2.rAdd, L2.rSub, ipI, List.getElem?_cons_zero, List.getElem?_cons_succ, List.set_cons_zero, List.set_cons_succ, Option.some.injEq, exists_eq_left', exists_eq_left, V.ref.injEq, V.int.injEq, V.bl.injEq, HO.ins.injEq, HO.lst.injEq, HO.dK.injEq, HO.tup.injEq, and_assoc, true_and, and_true, exists_and_left, List.cons.injEq, List.append_nil, List.cons_append, List.nil_append, x_eq, x_ne, oF_inj, if_true, if_false, Bool.false_eq_true, ite_true, ite_false, eq_self_iff_true, T.clO, T.nO_number, T.nO_who, T.nO_side, T.nO_kind, T.nO_price, T.nO_amount, T.nO_trigger, oF_number, oF_who, oF_side, oF_kind, oF_price, oF_amount, oF_trigger, oF_put_number, oF_put_who, oF_put_side, oF_put_kind, oF_put_price, oF_put_amount, oF_put_trigger, T.clB, T.nB_lines, T.nB_waiting, T.nB_known, T.nB_latest, T.nB_in_auction, T.nB_events, bF_lines, bF_waiting, bF_known, bF_latest, bF_in_auction, bF_events, bF_put_latest, bF_put_in_auction, bF_put_events, hb3, bF_no_trigger_stops]
  have F2 : Fr [L.wl, L.kd] H (upd (upd H L.wl (.lst (m.waits.map SB.R.v ++ [V.ref r.a]))) L.kd (.dK (putK kvs (Sum.inl (r.o.id : Int) : Key) (.ref r.a)))) :=
    fr_upd.trans fr_upd (fun b hb => .inl (by rw [List.mem_singleton.mp hb]; simp)) (fun b hb => .inl (by rw [List.mem_singleton.mp hb]; simp))
  have hwl2 : (upd (upd H L.wl (.lst (m.waits.map SB.R.v ++ [V.ref r.a]))) L.kd (.dK (putK kvs (Sum.inl (r.o.id : Int) : Key) (.ref r.a)))) L.wl = some (.lst (m.waits.map SB.R.v ++ [V.ref r.a])) := (upd_ne AP.wl_kd).trans upd_same
  have B2 := B.waited ⟨dr, hr⟩ out hk hwl2 hd upd_same F2
  have F3 := F2.mono (ys := r.a :: foot L m) fun b hb => .inl (List.mem_cons_of_mem _ (foot_own (by
    simp only [List.mem_cons, List.not_mem_nil, or_false] at hb
    rcases hb with h | h
    · exact .inr (.inr (.inr (.inl h)))
    · exact .inr (.inr (.inr (.inr (.inl h)))))))
  unfold waitM at kk hz
  cases ca : m.auc with
  | true =>
    rw [ca] at kk
    refine iteF ?_
    have e : (if true = true then (putW r m, ([] : List Sd17.Ev)) else stopsM (putW r m)) = (putW r m, []) := if_pos rfl
    rw [e, show flat ([] : List Sd17.Ev) = [] from rfl, List.append_nil] at kk
    exact kk _ B2 F3
  | false =>
    rw [ca] at kk hz
    have e : (if false = true then (putW r m, ([] : List Sd17.Ev)) else stopsM (putW r m)) = stopsM (putW r m) := if_neg (by decide)
    rw [e] at kk hz
    have lp : (putW r m).all.length = m.all.length + 1 := (putW_perm r m).length_eq.trans (List.length_cons ..)
    exact iteT ⟨L, putW r m, es, rfl, B2, by omega, hz, fun H4 B4 f4 => kk H4 B4 (F3.trans f4 (fun b hb => .inl hb) fun b hb => .inl (foot_put hb))⟩
theorem foot_come {L : Lay} {r : R} {m : M} {b : Addr} (h : b ∈ foot L (comeM r m).1) : b ∈ r.a :: foot L m := by
  unfold foot at h ⊢
  rcases List.mem_append.mp h with h | h
  · exact List.mem_cons_of_mem _ (List.mem_append.mpr (.inl h))
  · obtain ⟨x, hx, rfl⟩ := List.mem_map.mp h
    rcases come_sub r m x hx with ⟨y, hy, e1, _⟩ | ⟨e1, _⟩
    · rw [e1]
      exact List.mem_cons_of_mem _ (List.mem_append.mpr (.inr (List.mem_map.mpr ⟨y, hy, rfl⟩)))
    · rw [e1]
      exact List.mem_cons_self ..
def spArrive (K : PySem.W.Frag) (CO CB : Addr) : Sp := fun vs H Q _ => ∃ (L : Lay) (m : M) (es : List Int) (r : R), vs = [.ref L.bk, .ref r.a] ∧ BkAt CO CB L H m es ∧ OAt CO H r.a r.w ∧ Out r m ∧ r.k = r.o.kind ∧ (m.auc = true → r.k = 0) ∧ m.all.length ≤ 2000 ∧ (es ++ flat (arriveM r m).2).length ≤ 10000000 ∧
  ∀ H', BkAt CO CB L H' (arriveM r m).1 (es ++ flat (arriveM r m).2) → Fr (r.a :: foot L m) H H' → Q .non H'
theorem ln_Book_arrive {vs : List V} {H : Hp} {Q : VK} {E : XK} (h : spArrive K CO CB vs H Q E) : vs.length = 2 := by
  obtain ⟨L, m, es, r, rfl, _⟩ := h
  rfl
theorem ok_Book_arrive {f : Addr} {fd : FuncData} (F : Fun K "arrive" "Book.arrive" s_Book_arrive f fd) (T : Txt K mg CO CB) {f_Book_rest : Addr} {d_Book_rest : FuncData} (G_rest : Gm P w K mg base 3 CB "rest" f_Book_rest d_Book_rest ["self", "order"] (spRest K CO CB)) {f_Book_come : Addr} {d_Book_come : FuncData} (G_come : Gm P w K mg base 5 CB "come" f_Book_come d_Book_come ["self", "order"] (spCome K CO CB)) {f_Book_trigger_stops : Addr} {d_Book_trigger_stops : FuncData} (G_trigger_stops : Gm P w K mg base 6 CB "trigger_stops" f_Book_trigger_stops d_Book_trigger_stops ["self"] (spTriggerStops K CO CB)) : FnOk P w K mg base CX0 8 f fd ["self", "order"] (spArrive K CO CB) := by
  refine F.ok sc_Book_arrive (fun vs H Q E h => ln_Book_arrive h) (fun cdv A outer s H vs Q E hr h => ?_)
  have hu := hu_of hr
  refine ⟨_, (pss_one (ps_if (pt_val (pe_fld (pv 0) rfl))
      (pss_one (ps_expr (pe_meth (pv 0) T.clB G_rest.m G_rest.ok (hr.mono (by decide)) G_rest.b .nil pass0 (pa_cons (pv 1) pa_nil))))
      (pss_cons (ps_expr (pe_meth (pv 0) T.clB G_come.m G_come.ok (hr.mono (by decide)) G_come.b .nil pass0 (pa_cons (pv 1) pa_nil)))
        (pss_one (ps_expr (pe_meth0 (pv 0) T.clB G_trigger_stops.m G_trigger_stops.ok (hr.mono (by decide)) G_trigger_stops.b .nil pass0)))))), ?_⟩

  obtain ⟨L, m, es, r, rfl, B, ⟨dr, hr⟩, out, hk, ha, hm, hz, kk⟩ := h
  rw [show L2.start ["self", "order"] [V.ref L.bk, V.ref r.a] = [some (.ref L.bk), some (.ref r.a)] from rfl]
  obtain ⟨dx, hb⟩ := B.ob
  simp only [cxOf, Cx.nox, tSeq, tNext, tRet, tRetN, tDrop, tIfS, tVar, tC, tOp, tUn, tTest, tB, tAnd, tOr, tNot, tAndV, tOrV, tNotV, tIf, tFld, sFld, sFldAug, tAsg, gName, tAug, tCons, tNil, tCB, tCall, tMeth, tChain, sDPut, tDGet, tDIn, tDNotIn, tDGet1, tDPop1, tBM, tBM0, tLst, tTup, tDNewK, rI0, rI, CDiv, rU, L2.rAdd, L2.rSub, ipI, List.getElem?_cons_zero, List.getElem?_cons_succ, List.set_cons_zero, List.set_cons_succ, Option.some.injEq, exists_eq_left', exists_eq_left, V.ref.injEq, V.int.injEq, V.bl.injEq, HO.ins.injEq, HO.lst.injEq, HO.dK.injEq, HO.tup.injEq, and_assoc, true_and, and_true, exists_and_left, List.cons.injEq, List.append_nil, List.cons_append, List.nil_append, x_eq, x_ne, oF_inj, if_true, if_false, Bool.false_eq_true, ite_true, ite_false, eq_self_iff_true, T.clO, T.nO_number, T.nO_who, T.nO_side, T.nO_kind, T.nO_price, T.nO_amount, T.nO_trigger, oF_number, oF_who, oF_side, oF_kind, oF_price, oF_amount, oF_trigger, oF_put_number, oF_put_who, oF_put_side, oF_put_kind, oF_put_price, oF_put_amount, oF_put_trigger, T.clB, T.nB_lines, T.nB_waiting, T.nB_known, T.nB_latest, T.nB_in_auction, T.nB_events, bF_lines, bF_waiting, bF_known, bF_latest, bF_in_auction, bF_events, bF_put_latest, bF_put_in_auction, bF_put_events, hb, bF_no_rest, bF_no_come]
  unfold arriveM at kk hz
  cases ca : m.auc with
  | true =>
    rw [ca] at kk hz
    have e : (if true = true then (restM r m, [Sd17.Ev.rests r.o.id r.o.price r.o.amount]) else ((stopsM (comeM r m).1).1, (comeM r m).2 ++ (stopsM (comeM r m).1).2)) = (restM r m, [.rests r.o.id r.o.price r.o.amount]) := if_pos rfl
    rw [e] at kk hz
    refine iteT ⟨L, m, es, r, rfl, B, ⟨dr, hr⟩, out, .inl (ha ca), ?_, by omega, fun H2 B2 f2 => kk H2 B2 (f2.mono fun b hb => .inl (List.mem_cons_of_mem _ (foot_own ?_)))⟩
    · rw [List.length_append] at hz
      omega
    · simp only [List.mem_cons, List.not_mem_nil, or_false] at hb
      rcases hb with h | h | h
      · unfold Lay.side at h
        split at h
        · exact .inr (.inl h)
        · exact .inr (.inr (.inl h))
      · exact .inr (.inr (.inr (.inr (.inl h))))
      · exact .inr (.inr (.inr (.inr (.inr h))))
  | false =>
    rw [ca] at kk hz
    have e : (if false = true then (restM r m, [Sd17.Ev.rests r.o.id r.o.price r.o.amount]) else ((stopsM (comeM r m).1).1, (comeM r m).2 ++ (stopsM (comeM r m).1).2)) = ((stopsM (comeM r m).1).1, (comeM r m).2 ++ (stopsM (comeM r m).1).2) := if_neg (by decide)
    rw [e] at kk hz
    have cl := come_len r m
    rw [flat_app, ← List.append_assoc] at kk hz
    refine iteF ⟨L, m, es, r, rfl, B, ⟨dr, hr⟩, out, hk, ?_, by omega, fun H2 B2 f2 => ?_⟩
    · rw [List.length_append] at hz
      omega
    · obtain ⟨dx2, hb2⟩ := B2.ob
      refine ⟨dx2, _, hb2, bF_no_trigger_stops _ _ _, L, _, _, rfl, B2, by omega, hz, fun H3 B3 f3 => kk H3 B3 (f2.trans f3 (fun b hb => .inl hb) fun b hb => .inl ?_)⟩
      exact foot_come hb
end
end SB
namespace SB
open PySem PySem.Spec PyProof.Rows L2
section
variable {P : Program} {w : World} {K : PySem.W.Frag} {mg : Str → Option Value} {base : Heap} {CO CB : Addr}
/-! ### the calls -/
def New (xs : List Addr) (H : Hp) (q : Addr) : Prop := ∀ b o, H b = some o → b ∉ xs → b ≠ q
theorem new_of {xs : List Addr} {H H1 : Hp} {q : Addr} (f : Fr xs H H1) (h : H1 q = none) : New xs H q := fun b o e hb => ne_of_none (f b o e hb) h
/-- what a call leaves: the book, and its answer in a list of its own -/
def Post (CO CB : Addr) (L : Lay) (m : M) (H : Hp) (m' : M) (l : List Int) (Q : VK) : Prop := ∀ H' q ev', New (foot L m) H q → New (foot L m) H ev' → q ≠ ev' → BkAt CO CB { L with ev := ev' } H' m' [] → H' q = some (.lst (l.map V.int)) → Fr (foot L m) H H' → Q (.ref q) H'
theorem Post.no {L : Lay} {m : M} {H H1 : Hp} {l : List Int} {Q : VK} (kk : Post CO CB L m H m l Q) (B1 : BkAt CO CB L H1 m []) (f : Fr (foot L m) H H1) (p : Addr) (hp : H1 p = none) : Q (.ref p) (upd H1 p (.lst (l.map V.int))) :=
  kk _ p L.ev (new_of f hp) (fun b o e hb z => hb (foot_own (.inr (.inr (.inr (.inr (.inr z))))))) (ne_of_none B1.ev hp).symm (B1.keep0 (fr_new hp)) upd_same (f.trans (fr_new hp) (fun b hb => .inl hb) fun b hb => nomatch hb)
theorem Post.told {L : Lay} {m m' : M} {H H1 : Hp} {e : List Sd17.Ev} {Q : VK} {E : XK} (kk : Post CO CB L m H m' (ans e) Q) (B1 : BkAt CO CB L H1 m' (flat e)) (hz : (flat e).length ≤ 10000000) (f : Fr (foot L m) H H1) : spAnswer K CO CB [.ref L.bk] H1 Q E := by
  refine ⟨L, m', flat e, rfl, B1, hz, fun H' q ev' hq hev ne B2 e2 f2 => kk H' q ev' (new_of f hq) (new_of f hev) ne B2 ?_ (f.trans f2 (fun b hb => .inl hb) fun b hb => .inl (foot_own (.inl (List.mem_singleton.mp hb))))⟩
  rw [e2, flat_len, show 6 * e.length / 6 = e.length by omega]
  rfl
theorem Post.nil {L : Lay} {m m' : M} {H H1 : Hp} {Q : VK} {E : XK} (kk : Post CO CB L m H m' (ans []) Q) (B1 : BkAt CO CB L H1 m' []) (f : Fr (foot L m) H H1) : spAnswer K CO CB [.ref L.bk] H1 Q E := kk.told (e := []) B1 (Nat.zero_le _) f
/-! cancel -/
theorem Known.hit {kvs : List (Key × V)} {l : List R} (kn : Known kvs l) {z : Int} {r : R} (h : l.find? (fun r => decide ((r.o.id : Int) = z)) = some r) : valV kvs (Sum.inl z : Key) = some (.ref r.a) ∧ r ∈ l ∧ (r.o.id : Int) = z := by
  have e := List.find?_some h
  have e : (r.o.id : Int) = z := of_decide_eq_true e
  have hm := List.mem_of_find?_eq_some h
  exact ⟨e ▸ kn.on r hm, hm, e⟩
theorem Known.miss {kvs : List (Key × V)} {l : List R} (kn : Known kvs l) {z : Int} (h : l.find? (fun r => decide ((r.o.id : Int) = z)) = Option.none) : valV kvs (Sum.inl z : Key) = Option.none := kn.none fun r hr => by
  have := List.find?_eq_none.mp h r hr
  simpa using this
def spCancel (K : PySem.W.Frag) (CO CB : Addr) : Sp := fun vs H Q _ => ∃ (L : Lay) (m : M) (z : Int), vs = [.ref L.bk, .int z] ∧ BkAt CO CB L H m [] ∧ Post CO CB L m H (cancelStep z m).1 (cancelStep z m).2 Q
theorem ln_Book_cancel {vs : List V} {H : Hp} {Q : VK} {E : XK} (h : spCancel K CO CB vs H Q E) : vs.length = 2 := by
  obtain ⟨L, m, z, rfl, _⟩ := h
  rfl
theorem ok_Book_cancel {f : Addr} {fd : FuncData} (F : Fun K "cancel" "Book.cancel" s_Book_cancel f fd) (T : Txt K mg CO CB) {f_Book_take_out : Addr} {d_Book_take_out : FuncData} (G_take_out : Gm P w K mg base 2 CB "take_out" f_Book_take_out d_Book_take_out ["self", "order"] (spTakeOut K CO CB)) {f_Book_end : Addr} {d_Book_end : FuncData} (G_end : Gm P w K mg base 2 CB "end" f_Book_end d_Book_end ["self", "order", "why"] (spEnd K CO CB)) {f_Book_answer : Addr} {d_Book_answer : FuncData} (G_answer : Gm P w K mg base 1 CB "answer" f_Book_answer d_Book_answer ["self"] (spAnswer K CO CB)) : FnOk P w K mg base CX0 3 f fd ["self", "number"] (spCancel K CO CB) := by
  refine F.ok sc_Book_cancel (fun vs H Q E h => ln_Book_cancel h) (fun cdv A outer s H vs Q E hr h => ?_)
  have hu := hu_of hr
  refine ⟨_, (pss_cons (ps_if (pt_cmp (pc_dnotin hu (pv 1) (pe_fld (pv 0) rfl)))
      (pss_one (ps_ret (pe_lst (pa_cons (pe_un un_neg pe_int) pa_nil))))
      pss_nil)
    (pss_cons (ps_set (i := 2) sc_Book_cancel.nd rfl (Or.inl rfl) (pe_dget hu (pe_fld (pv 0) rfl) (pv 1) (fun _ _ => rfl)))
    (pss_cons (ps_expr (pe_meth (pv 0) T.clB G_take_out.m G_take_out.ok (hr.mono (by decide)) G_take_out.b .nil pass0 (pa_cons (pv 2) pa_nil)))
    (pss_cons (ps_expr (pe_meth (pv 0) T.clB G_end.m G_end.ok (hr.mono (by decide)) G_end.b .nil pass0 (pa_cons (pv 2) (pa_cons (pg_int rfl T.c_CANCELLED) pa_nil))))
    (pss_one (ps_ret (pe_meth0 (pv 0) T.clB G_answer.m G_answer.ok (hr.mono (by decide)) G_answer.b .nil pass0))))))), ?_⟩

  obtain ⟨L, m, z, rfl, B, kk⟩ := h
  rw [show L2.start ["self", "number", "order"] [V.ref L.bk, V.int z] = [some (.ref L.bk), some (.int z), none] from rfl]
  obtain ⟨dx, hb⟩ := B.ob
  obtain ⟨kvs, hd, kn⟩ := B.kd
  have AP := B.ap
  simp only [cxOf, Cx.nox, tSeq, tNext, tRet, tRetN, tDrop, tIfS, tVar, tC, tOp, tUn, tTest, tB, tAnd, tOr, tNot, tAndV, tOrV, tNotV, tIf, tFld, sFld, sFldAug, tAsg, gName, tAug, tCons, tNil, tCB, tCall, tMeth, tChain, sDPut, tDGet, tDIn, tDNotIn, tDGet1, tDPop1, tBM, tBM0, tLst, tTup, tDNewK, rI0, rI, CDiv, rU, L2.rAdd, L2.rSub, ipI, List.getElem?_cons_zero, List.getElem?_cons_succ, List.set_cons_zero, List.set_cons_succ, Option.some.injEq, exists_eq_left', exists_eq_left, V.ref.injEq, V.int.injEq, V.bl.injEq, HO.ins.injEq, HO.lst.injEq, HO.dK.injEq, HO.tup.injEq, and_assoc, true_and, and_true, exists_and_left, List.cons.injEq, List.append_nil, List.cons_append, List.nil_append, x_eq, x_ne, oF_inj, if_true, if_false, Bool.false_eq_true, ite_true, ite_false, eq_self_iff_true, T.clO, T.nO_number, T.nO_who, T.nO_side, T.nO_kind, T.nO_price, T.nO_amount, T.nO_trigger, oF_number, oF_who, oF_side, oF_kind, oF_price, oF_amount, oF_trigger, oF_put_number, oF_put_who, oF_put_side, oF_put_kind, oF_put_price, oF_put_amount, oF_put_trigger, T.clB, T.nB_lines, T.nB_waiting, T.nB_known, T.nB_latest, T.nB_in_auction, T.nB_events, bF_lines, bF_waiting, bF_known, bF_latest, bF_in_auction, bF_events, bF_put_latest, bF_put_in_auction, bF_put_events, hb, hd]
  unfold cancelStep at kk
  cases e : m.all.find? fun r => decide ((r.o.id : Int) = z) with
  | none =>
    rw [e] at kk
    refine ⟨_, DGet.k (k := Sum.inl z) hd, ?_⟩
    rw [kn.miss e]
    exact iteT ⟨bigL (by show 1 ≤ 16000000; omega), fun p hp => kk.no B (Fr.refl _ _) p hp⟩
  | some r =>
    rw [e] at kk
    obtain ⟨h1, hr, ez⟩ := kn.hit e
    have g : DGet H L.kd (.int z) (some (.ref r.a)) := h1 ▸ DGet.k (k := Sum.inl z) hd
    refine ⟨_, g, iteF ⟨_, g, bF_no_take_out _ _ _, L, m, [], r, rfl, B, hr, fun H1 B1 f1 => ?_⟩⟩
    obtain ⟨dr, er⟩ := B.od r hr
    have Ar := B.ao ⟨dr, er⟩
    have er1 := fr_at f1 er fun y hy => by
      simp only [List.mem_cons, List.not_mem_nil, or_false] at hy
      rcases hy with rfl | rfl | rfl | rfl
      · exact Ar.lb
      · exact Ar.ls
      · exact Ar.wl
      · exact Ar.kd
    have F1 : Fr (foot L m) H H1 := f1.mono fun b hb => .inl (foot_own (by
      simp only [List.mem_cons, List.not_mem_nil, or_false] at hb
      rcases hb with h | h | h | h
      · exact .inr (.inl h)
      · exact .inr (.inr (.inl h))
      · exact .inr (.inr (.inr (.inl h)))
      · exact .inr (.inr (.inr (.inr (.inl h))))))
    obtain ⟨dx1, hb1⟩ := B1.ob
    refine ⟨dx1, _, hb1, bF_no_end _ _ _, L, _, [], r.a, r.w, 1, rfl, B1, ⟨dr, er1⟩, Nat.zero_le _, fun H2 B2 f2 => ?_⟩
    obtain ⟨dx2, hb2⟩ := B2.ob
    exact ⟨dx2, _, hb2, bF_no_answer _ _ _, kk.told B2 (by rw [flat_len, List.length_cons, List.length_nil]; omega) (F1.trans f2 (fun b hb => .inl hb) fun b hb => .inl (foot_own (.inr (.inr (.inr (.inr (.inr (List.mem_singleton.mp hb)))))))) ⟩
theorem bF_few (L : Lay) (la : Nat) (c : Bool) : (bF L la c).length < 1000 := by
  rw [bF_len]
  omega
theorem cross_all (p : Nat) : ∀ (k : Nat) (m : M), (crossM p k m).1.all.length ≤ m.all.length
  | 0, m => Nat.le_refl _
  | k + 1, m => by
    cases e : bothM m p with
    | false =>
      rw [cross_stop k e]
      exact Nat.le_refl _
    | true =>
      obtain ⟨x, bs, y, ss, e1, e2, h1, h2⟩ := both_heads e
      rw [cross_go k e1 e2 h1 h2]
      refine Nat.le_trans (cross_all p k _) ?_
      unfold nextX M.all
      rw [e1, e2]
      show ((if _ then _ else _ : List R) ++ (if _ then _ else _ : List R) ++ m.waits).length ≤ _
      simp only [List.length_append, List.length_cons]
      split <;> split <;> (try simp only [List.length_cons]) <;> omega
def spAuction (K : PySem.W.Frag) (CO CB : Addr) : Sp := fun vs H Q _ => ∃ (L : Lay) (m : M) (on : Int), vs = [.ref L.bk, .int on] ∧ BkAt CO CB L H m [] ∧ m.all.length ≤ 2000 ∧
  ∀ ps, (∀ p, p ∈ ps ↔ p ∈ (m.buys ++ m.sells).map fun r => r.o.price) → (auctionStep on ps m).2.length ≤ 10000000 ∧ Post CO CB L m H (auctionStep on ps m).1 (auctionStep on ps m).2 Q
theorem ln_Book_auction {vs : List V} {H : Hp} {Q : VK} {E : XK} (h : spAuction K CO CB vs H Q E) : vs.length = 2 := by
  obtain ⟨L, m, z, rfl, _⟩ := h
  rfl
theorem ok_Book_auction {f : Addr} {fd : FuncData} (F : Fun K "auction" "Book.auction" s_Book_auction f fd) (T : Txt K mg CO CB) {f_Book_trade_auction : Addr} {d_Book_trade_auction : FuncData} (G_trade_auction : Gm P w K mg base 4 CB "trade_auction" f_Book_trade_auction d_Book_trade_auction ["self"] (spTradeAuction K CO CB)) {f_Book_trigger_stops : Addr} {d_Book_trigger_stops : FuncData} (G_trigger_stops : Gm P w K mg base 6 CB "trigger_stops" f_Book_trigger_stops d_Book_trigger_stops ["self"] (spTriggerStops K CO CB)) {f_Book_answer : Addr} {d_Book_answer : FuncData} (G_answer : Gm P w K mg base 1 CB "answer" f_Book_answer d_Book_answer ["self"] (spAnswer K CO CB)) : FnOk P w K mg base CX0 7 f fd ["self", "on"] (spAuction K CO CB) := by
  refine F.ok sc_Book_auction (fun vs H Q E h => ln_Book_auction h) (fun cdv A outer s H vs Q E hr h => ?_)
  have hu := hu_of hr
  refine ⟨_, (pss_cons (ps_set (i := 2) sc_Book_auction.nd rfl (Or.inl rfl) (pe_cmpR op_ne (pv 1) pe_int (nomark _)))
    (pss_cons (ps_if (pt_cmpR op_eq (pv 2) (pe_fld (pv 0) rfl) (nomark _))
      (pss_one (ps_ret (pe_lst (pa_cons (pe_un un_neg pe_int) pa_nil))))
      pss_nil)
    (pss_cons (ps_fld (pv 0) (pv 2) rfl)
    (pss_cons (ps_if (pt_not (pt_val (pv 2)))
      (pss_cons (ps_expr (pe_meth0 (pv 0) T.clB G_trade_auction.m G_trade_auction.ok (hr.mono (by decide)) G_trade_auction.b .nil pass0))
        (pss_one (ps_expr (pe_meth0 (pv 0) T.clB G_trigger_stops.m G_trigger_stops.ok (hr.mono (by decide)) G_trigger_stops.b .nil pass0))))
      pss_nil)
    (pss_one (ps_ret (pe_meth0 (pv 0) T.clB G_answer.m G_answer.ok (hr.mono (by decide)) G_answer.b .nil pass0))))))), ?_⟩

  obtain ⟨L, m, on, rfl, B, hm, kk⟩ := h
  rw [show L2.start ["self", "on", "begins"] [V.ref L.bk, V.int on] = [some (.ref L.bk), some (.int on), none] from rfl]
  obtain ⟨dx, hb⟩ := B.ob
  simp only [cxOf, Cx.nox, tSeq, tNext, tRet, tRetN, tDrop, tIfS, tVar, tC, tOp, tUn, tTest, tB, tAnd, tOr, tNot, tAndV, tOrV, tNotV, tIf, tFld, sFld, sFldAug, tAsg, gName, tAug, tCons, tNil, tCB, tCall, tMeth, tChain, sDPut, tDGet, tDIn, tDNotIn, tDGet1, tDPop1, tBM, tBM0, tLst, tTup, tDNewK, rI0, rI, CDiv, rU, L2.rAdd, L2.rSub, ipI, List.getElem?_cons_zero, List.getElem?_cons_succ, List.set_cons_zero, List.set_cons_succ, Option.some.injEq, exists_eq_left', exists_eq_left, V.ref.injEq, V.int.injEq, V.bl.injEq, HO.ins.injEq, HO.lst.injEq, HO.dK.injEq, HO.tup.injEq, and_assoc, true_and, and_true, exists_and_left, List.cons.injEq, List.append_nil, List.cons_append, List.nil_append, x_eq, x_ne, oF_inj, if_true, if_false, Bool.false_eq_true, ite_true, ite_false, eq_self_iff_true, T.clO, T.nO_number, T.nO_who, T.nO_side, T.nO_kind, T.nO_price, T.nO_amount, T.nO_trigger, oF_number, oF_who, oF_side, oF_kind, oF_price, oF_amount, oF_trigger, oF_put_number, oF_put_who, oF_put_side, oF_put_kind, oF_put_price, oF_put_amount, oF_put_trigger, T.clB, T.nB_lines, T.nB_waiting, T.nB_known, T.nB_latest, T.nB_in_auction, T.nB_events, bF_lines, bF_waiting, bF_known, bF_latest, bF_in_auction, bF_events, bF_put_latest, bF_put_in_auction, bF_put_events, hb]
  have ec : decide (V.bl (!decide (on = 0)) = V.bl m.auc) = decide (decide (on ≠ 0) = m.auc) := by
    rw [Bool.eq_iff_iff]
    simp
  refine ⟨rfl, _, rfl, ?_⟩
  rw [ec]
  by_cases hc : decide (on ≠ 0) = m.auc
  · have kk := (kk ((m.buys ++ m.sells).map fun r => r.o.price) fun _ => Iff.rfl).2
    rw [show auctionStep on ((m.buys ++ m.sells).map fun r => r.o.price) m = (m, [-1]) from if_pos hc] at kk
    exact iteDT hc ⟨bigL (by show 1 ≤ 16000000; omega), fun p hp => kk.no B (Fr.refl _ _) p hp⟩
  · refine iteDF hc ?_
    have e0 : ∀ ps, auctionStep on ps m = if on ≠ 0 then ({ m with auc := true }, ans []) else ((auctionM ps { m with auc := false }).1, ans (auctionM ps { m with auc := false }).2) := fun ps => if_neg hc
    have set : ∀ c : Bool, BkAt CO CB L (upd H L.bk (.ins CB dx (bF L m.last c))) { m with auc := c } [] := fun c => by
      have AP := B.ap
      have f : Fr [L.bk] H (upd H L.bk (.ins CB dx (bF L m.last c))) := fr_upd
      obtain ⟨kvs, hd, kn⟩ := B.kd
      exact ⟨⟨dx, upd_same⟩, fr_1 f B.tl AP.tl_bk, fr_1 f B.lb AP.lb_bk, fr_1 f B.ls AP.ls_bk, fr_1 f B.wl AP.wl_bk, ⟨kvs, fr_1 f hd AP.kd_bk, kn⟩, fr_1 f B.ev AP.ev_bk, fun r hr => oat_keep (B.od r hr) f (fun b hb => by
        rw [List.mem_singleton.mp hb]
        exact (B.ao (B.od r hr)).bk), B.ne, B.ok.auc c⟩
    have fset : ∀ c : Bool, Fr (foot L m) H (upd H L.bk (.ins CB dx (bF L m.last c))) := fun c => fr_upd.mono fun b hb => .inl (foot_own (.inl (List.mem_singleton.mp hb)))
    refine ⟨CB, dx, _, hb, T.clB, T.nB_in_auction, bF_few _ _ _, ?_⟩
    rw [bF_put_in_auction]
    by_cases h0 : on = 0
    · subst h0
      refine iteT ?_
      have B1 := set false
      have f1 := fset false
      have hz := fun ps hp => (kk ps hp).1
      have kk := fun ps hp => (kk ps hp).2
      rw [show (!decide ((0 : Int) = 0)) = false from rfl]
      generalize upd H L.bk (.ins CB dx (bF L m.last false)) = H1 at B1 f1
      have e0 : ∀ ps, auctionStep 0 ps m = ((auctionM ps { m with auc := false }).1, ans (auctionM ps { m with auc := false }).2) := fun ps => (e0 ps).trans (if_neg (by decide))
      obtain ⟨dx1, hb1⟩ := B1.ob
      have la : ({ m with auc := false } : M).all.length = m.all.length := rfl
      have lbs : m.buys.length + m.sells.length ≤ m.all.length := by
        unfold M.all
        rw [List.length_append, List.length_append]
        omega
      refine ⟨dx1, _, hb1, bF_no_trade_auction _ _ _, L, _, [], m.buys.length + m.sells.length + 1, rfl, B1, by omega, Nat.lt_succ_self _, by rw [List.length_nil]; omega, fun ps H2 hps B2 sub f2 => ?_⟩
      have hz := hz ps hps
      have kk := kk ps hps
      rw [e0] at kk hz
      have hz : (flat (auctionM ps { m with auc := false }).2).length ≤ 10000000 := Nat.le_trans (Nat.le_succ _) hz
      have ef : [] ++ flat (crossM (clearP { m with auc := false } ps) (m.buys.length + m.sells.length + 1) { m with auc := false }).2 ++ flat (stopsM (crossM (clearP { m with auc := false } ps) (m.buys.length + m.sells.length + 1) { m with auc := false }).1).2 = flat (auctionM ps { m with auc := false }).2 := (flat_app _ _).symm
      obtain ⟨dx2, hb2⟩ := B2.ob
      have lc := cross_all (clearP { m with auc := false } ps) (m.buys.length + m.sells.length + 1) { m with auc := false }
      refine ⟨dx2, _, hb2, bF_no_trigger_stops _ _ _, L, _, _, rfl, B2, by omega, by rw [ef]; exact hz, fun H3 B3 f3 => ?_⟩
      rw [ef] at B3
      obtain ⟨dx3, hb3⟩ := B3.ob
      exact ⟨dx3, _, hb3, bF_no_answer _ _ _, kk.told B3 hz ((f1.trans f2 (fun b hb => .inl hb) fun b hb => .inl hb).trans f3 (fun b hb => .inl hb) fun b hb => .inl (sub.foot hb))⟩
    · have kk := (kk ((m.buys ++ m.sells).map fun r => r.o.price) fun _ => Iff.rfl).2
      rw [e0, if_pos h0] at kk
      rw [decide_eq_false h0]
      refine iteF ?_
      obtain ⟨dx1, hb1⟩ := (set true).ob
      exact ⟨dx1, _, hb1, bF_no_answer _ _ _, kk.nil (set true) (fset true)⟩
end
end SB
namespace SB
open PySem PySem.Spec PyProof.Rows L2
section
variable {P : Program} {w : World} {K : PySem.W.Frag} {mg : Str → Option Value} {base : Heap} {CO CB : Addr}
def lookL (m : M) : Nat → List Int
  | 0 => [0]
  | 1 => [0, (topP m.buys : Int), (topA m.buys : Int)]
  | _ => [0, (topP m.buys : Int), (topA m.buys : Int), (topP m.sells : Int), (topA m.sells : Int)]
def spLook (K : PySem.W.Frag) (CO CB : Addr) : Sp := fun vs H Q _ => ∃ (L : Lay) (m : M), vs = [.ref L.bk] ∧ BkAt CO CB L H m [] ∧ m.all.length ≤ 2000 ∧
  ∀ ps, (∀ p, p ∈ ps ↔ p ∈ (m.buys ++ m.sells).map fun r => r.o.price) → Post CO CB L m H m (lookStep ps m) Q
theorem ln_Book_look {vs : List V} {H : Hp} {Q : VK} {E : XK} (h : spLook K CO CB vs H Q E) : vs.length = 1 := by
  obtain ⟨L, m, rfl, _⟩ := h
  rfl
def wLook (L : Lay) (m : M) (t : Addr) (H0 : Hp) (i : Nat) (σ : L2.St) (H' : Hp) : Prop := ∃ v2 v3, σ = [some (.ref L.bk), some (.ref t), v2, v3, none] ∧ H' t = some (.lst ((lookL m i).map V.int)) ∧ Fr [] H0 H'
theorem look_price (T : Txt K mg CO CB) {line : List R} {l : Addr} {σ : L2.St} {H : Hp} (h2 : σ[2]? = some (some (.ref l))) (hl : H l = some (.lst (line.map R.v))) (od : ∀ r ∈ line, OAt CO H r.a r.w) {Qv : V → Hp → Prop} (q : Qv (.int (topP line : Nat)) H) :
    if (!(line.map R.v).isEmpty) = true then tFld K (tOp (rIxL K) (tVar 2) (tC (.int 0))) "price" σ H Qv else tC (.int 0) σ H Qv := by
  cases line with
  | nil => exact iteF q
  | cons x line =>
    obtain ⟨dx, e⟩ := od x (List.mem_cons_self ..)
    exact iteT ⟨_, h2, l, _, _, _, rfl, rfl, SqL.of hl, at0, x.a, CO, dx, _, _, rfl, e, T.clO, T.nO_price, rfl, q⟩
theorem ok_Book_look {f : Addr} {fd : FuncData} (F : Fun K "look" "Book.look" s_Book_look f fd) (T : Txt K mg CO CB) {f_Book_price_of_auction : Addr} {d_Book_price_of_auction : FuncData} (G_price_of_auction : Gm P w K mg base 2 CB "price_of_auction" f_Book_price_of_auction d_Book_price_of_auction ["self"] (spPriceOfAuction K CO CB)) : FnOk P w K mg base CX0 3 f fd ["self"] (spLook K CO CB) := by
  refine F.ok sc_Book_look (fun vs H Q E h => ln_Book_look h) (fun cdv A outer s H vs Q E hr h => ?_)
  have hu := hu_of hr
  refine ⟨_, (pss_cons (ps_set (i := 1) sc_Book_look.nd rfl (Or.inl rfl) (pe_lst (pa_cons pe_int pa_nil)))
    (pss_cons (ps_for PassesOwn.never rfl (pi_tup (pe_fld (pv 0) rfl)) (pg_name (i := 2) sc_Book_look.nd rfl (Or.inl rfl))
      (pss_cons (ps_set (i := 3) sc_Book_look.nd rfl (Or.inr rfl) (pe_ifExp (pt_truth (pv 2) (by intro _; rfl)) (pe_fld (pe_ix ix_list (pv 2) pe_int (fun _ _ => rfl)) rfl) pe_int))
        (pss_cons (ps_expr (pe_bm PySem.F.plainAttrs_list PySem.F.slot_list_append PySem.F.type_list_append mt_append (pv 1) (pa_cons (pv 3) pa_nil)))
        (pss_one (ps_expr (pe_bm PySem.F.plainAttrs_list PySem.F.slot_list_append PySem.F.type_list_append mt_append (pv 1) (pa_cons (pe_callB (cr_sum rfl) (by rfl) T.b_sum (by decide +kernel) (pa_cons (pe_lc (own := [("order", 4)]) (g := gName 4) (tt := (tTest (tOp rEq (tFld K (tVar 4) "price") (tVar 3)))) (te := (tFld K (tVar 4) "amount")) rfl sc_Book_look.nd (pi_list (pv 2)) (blkOk_by (N := ["self", "told", "line", "price", "order"]) (sc := defScope s_Book_look) (by decide +kernel)) (by exact fun _ _ _ _ _ => pg_name (i := 4) sc_Book_look.nd rfl (Or.inl rfl)) (by exact fun _ _ _ _ _ => (pts_one (pt_cmpR op_eq (pe_fld (pv 4) rfl) (pv 3) (nomark _)))) (by exact fun _ _ _ _ _ => (pe_fld (pv 4) rfl))) pa_nil)) pa_nil)))))))
    (pss_cons (ps_expr (pe_bm PySem.F.plainAttrs_list PySem.F.slot_list_append PySem.F.type_list_append mt_append (pv 1) (pa_cons (pe_fld (pv 0) rfl) pa_nil)))
    (pss_cons (ps_expr (pe_bm PySem.F.plainAttrs_list PySem.F.slot_list_append PySem.F.type_list_append mt_append (pv 1) (pa_cons (pe_ifExp (pt_val (pe_fld (pv 0) rfl)) (pe_meth0 (pv 0) T.clB G_price_of_auction.m G_price_of_auction.ok (hr.mono (by decide)) G_price_of_auction.b .nil pass0) pe_int) pa_nil)))
    (pss_one (ps_ret (pv 1))))))), ?_⟩

  obtain ⟨L, m, rfl, B, hm, kk⟩ := h
  rw [show L2.start ["self", "told", "line", "price", "order"] [V.ref L.bk] = [some (.ref L.bk), none, none, none, none] from rfl]
  obtain ⟨dx, hb⟩ := B.ob
  refine ⟨bigL (by show 1 ≤ 16000000; omega), fun t ht => ?_⟩
  have f1 : Fr [] H (upd H t (.lst [V.int 0])) := fr_new ht
  have et : (upd H t (.lst [V.int 0])) t = some (.lst ((lookL m 0).map V.int)) := upd_same
  generalize upd H t (.lst [V.int 0]) = H1 at f1 et
  have B1 := B.keep0 f1
  obtain ⟨dx1, hb1⟩ := B1.ob
  have sb := side_len (m := m)
  refine ⟨.ref L.bk, rfl, L.bk, CB, dx1, _, _, rfl, hb1, T.clB, T.nB_lines, rfl, L.tl, rfl, ⟨_, SqT.of B1.tl⟩, for_tup (K := K) (a := L.tl) (xs := [.ref L.lb, .ref L.ls]) (wLook L m t H) ⟨none, none, rfl, et, f1⟩ (fun i σ H' _ ⟨_, _, _, _, f⟩ => SqT.of (fr_nil f B.tl)) (fun i y σ H' hi hp => ?_) fun σ H' hp => ?_⟩
  · obtain ⟨v2, v3, rfl, et, f⟩ := hp
    obtain ⟨buy, rfl, el⟩ : ∃ buy : Bool, y = .ref (L.side buy) ∧ lookL m (i + 1) = lookL m i ++ [(topP (m.side buy) : Int), (topA (m.side buy) : Int)] := by
      match i, hi with
      | 0, hi => exact ⟨true, (Option.some.inj hi).symm, rfl⟩
      | 1, hi => exact ⟨false, (Option.some.inj hi).symm, rfl⟩
    have B2 := B.keep0 f
    have hl := B2.line buy
    have nlt := ne_of_none (B.line buy) ht
    have od0 := fun x hx => B.od x (side_all (buy := buy) hx)
    have hll : (m.side buy).length ≤ 2000 := Nat.le_trans (sb buy) hm
    have od := fun x hx => B2.od x (side_all (buy := buy) hx)
    generalize m.side buy = line at hl hll od od0 el
    refine ⟨_, rfl, _, .inl ⟨_, SqL.of hl, rfl⟩, look_price T rfl hl od ?_⟩
    have lt : (lookL m i).length ≤ 100 := by
      match i with
      | 0 => exact Nat.le_of_ble_eq_true rfl
      | 1 => exact Nat.le_of_ble_eq_true rfl
      | _ + 2 => exact Nat.le_of_ble_eq_true rfl
    refine ⟨.ref t, rfl, tyL et, _, rfl, t, _, _, rfl, rfl, et, by rw [List.length_map]; exact big (by omega), ?_⟩
    have et2 : (upd H' t (.lst ((lookL m i).map V.int ++ [V.int (topP line : Int)]))) t = some (.lst ((lookL m i).map V.int ++ [V.int (topP line : Int)])) := upd_same
    have f2 : Fr [] H (upd H' t (.lst ((lookL m i).map V.int ++ [V.int (topP line : Int)]))) := f.trans (fr_upd (a := t)) (fun b hb => .inl hb) fun b hb => .inr (by rw [List.mem_singleton.mp hb]; exact ht)
    have f2' : Fr [t] H' (upd H' t (.lst ((lookL m i).map V.int ++ [V.int (topP line : Int)]))) := fr_upd
    have hl2 := fr_1 f2' hl nlt
    generalize upd H' t (.lst ((lookL m i).map V.int ++ [V.int (topP line : Int)])) = H3 at et2 f2 f2' hl2
    have od2 : ∀ x ∈ line, OAt CO H3 x.a x.w := fun x hx => by
      obtain ⟨dx, e⟩ := od0 x hx
      exact ⟨dx, fr_nil f2 e⟩
    refine ⟨.ref t, rfl, tyL et2, .ref (L.side buy), rfl, L.side buy, rfl, ⟨_, SqL.of hl2⟩, comp_list (rs := line) (φ := SB.R.v) (fun r => decide (r.o.price = topP line)) (fun x => .int (x.o.amount : Int)) hl2 (by omega) (fun _ => rfl) (fun x hx H' f R hR => ?_) (fun x hx _ H' f R hR => ?_) fun D1 H4 hD1 f4 e4 => ?_⟩
    · obtain ⟨dx, e⟩ := od2 x hx
      have e := fr_nil f e
      refine ⟨_, rfl, x.a, CO, dx, _, _, rfl, e, T.clO, T.nO_price, rfl, _, rfl, rfl, _, rfl, ?_⟩
      have ed : decide (V.int x.w.p = V.int (topP line : Int)) = decide (x.o.price = topP line) := by
        rw [Bool.eq_iff_iff, decide_eq_true_eq, decide_eq_true_eq]
        have ep : x.w.p = (x.o.price : Int) := rfl
        constructor
        · intro h
          have := V.int.inj h
          omega
        · intro h
          rw [ep, h]
      rw [ed]
      exact hR
    · obtain ⟨dx, e⟩ := od2 x hx
      have e := fr_nil f e
      exact ⟨_, rfl, x.a, CO, dx, _, _, rfl, e, T.clO, T.nO_amount, rfl, hR⟩
    · have es : ((line.filter fun r => decide (r.o.price = topP line)).map fun x => (x.o.amount : Int)).sum = ((topA line : Nat) : Int) := by
        unfold topA
        rw [← sum_cast, List.map_map]
        rfl
      refine ⟨D1, (line.filter fun r => decide (r.o.price = topP line)).map fun x => (x.o.amount : Int), rfl, SqL.of (e4.trans (by rw [List.map_map]; rfl)), ?_⟩
      rw [es]
      have et4 := fr_nil f4 et2
      refine ⟨t, _, _, rfl, rfl, et4, by rw [List.length_append, List.length_map, List.length_cons, List.length_nil]; exact big (by omega), ?_⟩
      refine ⟨_, _, rfl, ?_, (f2.trans f4 (zs := []) (fun b hb => nomatch hb) fun b hb => nomatch hb).trans (fr_upd (a := t)) (fun b hb => nomatch hb) fun b hb => .inr (by rw [List.mem_singleton.mp hb]; exact ht)⟩
      rw [upd_same, el, List.map_append, List.append_assoc]
      rfl
  · obtain ⟨v2, v3, rfl, et, f⟩ := hp
    have B2 := B.keep0 f
    obtain ⟨dx2, hb2⟩ := B2.ob
    have ty := tyL (K := K) et
    simp only [cxOf, Cx.nox, tSeq, tNext, tRet, tRetN, tDrop, tIfS, tVar, tC, tOp, tUn, tTest, tB, tAnd, tOr, tNot, tAndV, tOrV, tNotV, tIf, tFld, sFld, sFldAug, tAsg, gName, tAug, tCons, tNil, tCB, tCall, tMeth, tChain, sDPut, tDGet, tDIn, tDNotIn, tDGet1, tDPop1, tBM, tBM0, tLst, tTup, tDNewK, rI0, rI, CDiv, rU, L2.rAdd, L2.rSub, ipI, List.getElem?_cons_zero, List.getElem?_cons_succ, List.set_cons_zero, List.set_cons_succ, Option.some.injEq, exists_eq_left', exists_eq_left, V.ref.injEq, V.int.injEq, V.bl.injEq, HO.ins.injEq, HO.lst.injEq, HO.dK.injEq, HO.tup.injEq, and_assoc, true_and, and_true, exists_and_left, List.cons.injEq, List.append_nil, List.cons_append, List.nil_append, x_eq, x_ne, oF_inj, if_true, if_false, Bool.false_eq_true, ite_true, ite_false, eq_self_iff_true, T.clO, T.nO_number, T.nO_who, T.nO_side, T.nO_kind, T.nO_price, T.nO_amount, T.nO_trigger, oF_number, oF_who, oF_side, oF_kind, oF_price, oF_amount, oF_trigger, oF_put_number, oF_put_who, oF_put_side, oF_put_kind, oF_put_price, oF_put_amount, oF_put_trigger, T.clB, T.nB_lines, T.nB_waiting, T.nB_known, T.nB_latest, T.nB_in_auction, T.nB_events, bF_lines, bF_waiting, bF_known, bF_latest, bF_in_auction, bF_events, bF_put_latest, bF_put_in_auction, bF_put_events, hb2, tBM, rAppend, ty]
    have et : H' t = some (.lst ((lookL m 2).map V.int)) := et
    refine ⟨_, et, big (by rw [List.length_map]; show 5 ≤ 16000000; omega), tyL upd_same, ?_⟩
    have et2 : (upd H' t (.lst ((lookL m 2).map V.int ++ [V.int (m.last : Int)]))) t = some (.lst ((lookL m 2).map V.int ++ [V.int (m.last : Int)])) := upd_same
    have f2 : Fr [] H (upd H' t (.lst ((lookL m 2).map V.int ++ [V.int (m.last : Int)]))) := f.trans (fr_upd (a := t)) (fun b hb => .inl hb) fun b hb => .inr (by rw [List.mem_singleton.mp hb]; exact ht)
    generalize upd H' t (.lst ((lookL m 2).map V.int ++ [V.int (m.last : Int)])) = H3 at et2 f2
    have B3 := B.keep0 f2
    obtain ⟨dx3, hb3⟩ := B3.ob
    refine ⟨CB, dx3, _, hb3, T.clB, T.nB_in_auction, _, rfl, m.auc, rfl, ?_⟩
    have lt : ((lookL m 2).map V.int ++ [V.int (m.last : Int)]).length < sizeLine := big (by rw [List.length_append, List.length_map]; show 6 ≤ 16000000; omega)
    have fin : ∀ (ps : List Nat) (H4 : Hp) (y : Nat), Post CO CB L m H m (lookStep ps m) Q → y = (if m.auc = true then clearP m ps else 0) → Fr [] H H4 → H4 t = some (.lst ((lookL m 2).map V.int ++ [V.int (m.last : Int)])) → Q (.ref t) (upd H4 t (.lst ((lookL m 2).map V.int ++ [V.int (m.last : Int)] ++ [V.int (y : Int)]))) := fun ps H4 y kk ey f4 e4 => by
      have f5 : Fr [] H (upd H4 t (.lst ((lookL m 2).map V.int ++ [V.int (m.last : Int)] ++ [V.int (y : Int)]))) := f4.trans (fr_upd (a := t)) (fun b hb => .inl hb) fun b hb => .inr (by rw [List.mem_singleton.mp hb]; exact ht)
      refine kk _ t L.ev (fun b o e _ => ne_of_none e ht) (fun b o e hb z => hb (foot_own (.inr (.inr (.inr (.inr (.inr z))))))) (ne_of_none B.ev ht).symm (B.keep0 f5) ?_ (f5.mono fun b hb => nomatch hb)
      rw [upd_same, ey]
      rfl
    cases ca : m.auc with
    | true =>
      refine iteT ⟨dx3, _, hb3, bF_no_price_of_auction _ _ _, L, m, [], rfl, B3, hm, fun ps H4 hps f4 => ?_⟩
      have et4 := fr_nil f4 et2
      exact ⟨_, et4, lt, fin ps H4 _ (kk ps hps) (by rw [ca]; rfl) (f2.trans f4 (fun b hb => nomatch hb) fun b hb => nomatch hb) et4⟩
    | false =>
      exact iteF ⟨_, et2, lt, fin _ H3 0 (kk ((m.buys ++ m.sells).map fun r => r.o.price) fun _ => Iff.rfl) (by rw [ca]; rfl) f2 et2⟩
end
end SB
namespace SB
open PySem PySem.Spec PyProof.Rows L2
section
variable {P : Program} {w : World} {K : PySem.W.Frag} {mg : Str → Option Value} {base : Heap} {CO CB : Addr}
def spChange (K : PySem.W.Frag) (CO CB : Addr) : Sp := fun vs H Q _ => ∃ (L : Lay) (m : M) (z p n : Int), vs = [.ref L.bk, .int z, .int p, .int n] ∧ BkAt CO CB L H m [] ∧ m.all.length ≤ 2000 ∧ (∀ r, r ∈ m.buys ∨ r ∈ m.sells → r.o.kind = 0) ∧ (changeStep z p n m).2.length ≤ 10000000 ∧ Post CO CB L m H (changeStep z p n m).1 (changeStep z p n m).2 Q
theorem ln_Book_change {vs : List V} {H : Hp} {Q : VK} {E : XK} (h : spChange K CO CB vs H Q E) : vs.length = 4 := by
  obtain ⟨L, m, z, p, n, rfl, _⟩ := h
  rfl
theorem reR_am (i n : Nat) : AmOnly (reR i n) := by
  refine ⟨fun r => ?_, fun r => ?_, fun r => ?_, fun r => ?_, fun r => ?_, fun r => ?_⟩ <;> (unfold reR; split <;> rfl)
theorem del_in {i : Nat} {m : M} {x : R} (h : x ∈ (delM i m).all) : x ∈ m.all ∧ x.o.id ≠ i := by
  have h : x ∈ (m.buys.filter fun r => r.o.id != i) ++ (m.sells.filter fun r => r.o.id != i) ++ (m.waits.filter fun r => r.o.id != i) := h
  rw [← List.filter_append, ← List.filter_append] at h
  obtain ⟨h1, h2⟩ := List.mem_filter.mp h
  exact ⟨h1, by simpa using h2⟩
theorem del_len (i : Nat) (m : M) : (delM i m).all.length ≤ m.all.length := by
  have e : (delM i m).all = m.all.filter fun r => r.o.id != i := by
    show (m.buys.filter fun r => r.o.id != i) ++ (m.sells.filter fun r => r.o.id != i) ++ (m.waits.filter fun r => r.o.id != i) = _
    rw [← List.filter_append, ← List.filter_append]
    rfl
  rw [e]
  exact List.length_filter_le _ _
theorem change_none {m : M} {z p n : Int} (e : (m.buys ++ m.sells).find? (fun r => decide ((r.o.id : Int) = z)) = none) : changeStep z p n m = (m, [-1]) := by
  unfold changeStep
  rw [e]
theorem change_some {m : M} {z p n : Int} {r : R} (e : (m.buys ++ m.sells).find? (fun r => decide ((r.o.id : Int) = z)) = some r) : changeStep z p n m = if inR p = false ∨ inR n = false then (m, [-1])
    else if p = (r.o.price : Int) ∧ n ≤ (r.o.amount : Int) then (reM r.o.id n.toNat m, ans [.rests r.o.id p.toNat n.toNat])
    else ((arriveM (newR r p.toNat n.toNat) (delM r.o.id m)).1, ans (arriveM (newR r p.toNat n.toNat) (delM r.o.id m)).2) := by
  unfold changeStep
  rw [e]
theorem ok_Book_change {f : Addr} {fd : FuncData} (F : Fun K "change" "Book.change" s_Book_change f fd) (T : Txt K mg CO CB) {f_is_stop : Addr} {d_is_stop : FuncData} (G_is_stop : Gd P w K mg base 1 "is_stop" f_is_stop d_is_stop ["order"] (spIsStop CO)) {f_is_in_range : Addr} {d_is_in_range : FuncData} (G_is_in_range : Gd P w K mg base 1 "is_in_range" f_is_in_range d_is_in_range ["number"] spInRange) {f_Book_tell : Addr} {d_Book_tell : FuncData} (G_tell : Gm P w K mg base 1 CB "tell" f_Book_tell d_Book_tell ["self", "event", "number", "other", "price", "amount", "left"] (spTell K CO CB)) {f_Book_take_out : Addr} {d_Book_take_out : FuncData} (G_take_out : Gm P w K mg base 2 CB "take_out" f_Book_take_out d_Book_take_out ["self", "order"] (spTakeOut K CO CB)) {f_Book_arrive : Addr} {d_Book_arrive : FuncData} (G_arrive : Gm P w K mg base 8 CB "arrive" f_Book_arrive d_Book_arrive ["self", "order"] (spArrive K CO CB)) {f_Book_answer : Addr} {d_Book_answer : FuncData} (G_answer : Gm P w K mg base 1 CB "answer" f_Book_answer d_Book_answer ["self"] (spAnswer K CO CB)) : FnOk P w K mg base CX0 9 f fd ["self", "number", "price", "amount"] (spChange K CO CB) := by
  refine F.ok sc_Book_change (fun vs H Q E h => ln_Book_change h) (fun cdv A outer s H vs Q E hr h => ?_)
  have hu := hu_of hr
  refine ⟨_, (pss_cons (ps_set (i := 4) sc_Book_change.nd rfl (Or.inl rfl) (pe_dget1 hu (pe_fld (pv 0) rfl) (pv 1) ⟨by rfl, by rfl, by rfl, by rfl⟩))
    (pss_cons (ps_if (PW.pt (pw_or (pt_cmpR op_isN (pv 4) pe_non (nomark _)) (pw_or1 (pt_val (pe_call G_is_stop.ok (hr.mono (by decide)) rfl G_is_stop.mg G_is_stop.kp G_is_stop.b .nil pass0 (pa_cons (pv 4) pa_nil))))))
      (pss_one (ps_ret (pe_lst (pa_cons (pe_un un_neg pe_int) pa_nil))))
      pss_nil)
    (pss_cons (ps_if (PW.pt (pw_or (pt_not (pt_val (pe_call G_is_in_range.ok (hr.mono (by decide)) rfl G_is_in_range.mg G_is_in_range.kp G_is_in_range.b .nil pass0 (pa_cons (pv 2) pa_nil)))) (pw_or1 (pt_not (pt_val (pe_call G_is_in_range.ok (hr.mono (by decide)) rfl G_is_in_range.mg G_is_in_range.kp G_is_in_range.b .nil pass0 (pa_cons (pv 3) pa_nil)))))))
      (pss_one (ps_ret (pe_lst (pa_cons (pe_un un_neg pe_int) pa_nil))))
      pss_nil)
    (pss_cons (ps_if (PW.pt (pw_and (pt_cmpR op_eq (pv 2) (pe_fld (pv 4) rfl) (nomark _)) (pw_and1 (pt_cmpR op_le (pv 3) (pe_fld (pv 4) rfl) (nomark _)))))
      (pss_cons (ps_fld (pv 4) (pv 3) rfl)
        (pss_one (ps_expr (pe_meth (pv 0) T.clB G_tell.m G_tell.ok (hr.mono (by decide)) G_tell.b .nil pass0 (pa_cons (pg_int rfl T.c_RESTS) (pa_cons (pv 1) (pa_cons pe_int (pa_cons (pv 2) (pa_cons (pv 3) (pa_cons pe_int pa_nil))))))))))
      (pss_cons (ps_expr (pe_meth (pv 0) T.clB G_take_out.m G_take_out.ok (hr.mono (by decide)) G_take_out.b .nil pass0 (pa_cons (pv 4) pa_nil)))
        (pss_cons (ps_fld (pv 4) (pg_int rfl T.c_LIMIT) rfl)
        (pss_cons (ps_fld (pv 4) (pv 2) rfl)
        (pss_cons (ps_fld (pv 4) (pv 3) rfl)
        (pss_one (ps_expr (pe_meth (pv 0) T.clB G_arrive.m G_arrive.ok (hr.mono (by decide)) G_arrive.b .nil pass0 (pa_cons (pv 4) pa_nil)))))))))
    (pss_one (ps_ret (pe_meth0 (pv 0) T.clB G_answer.m G_answer.ok (hr.mono (by decide)) G_answer.b .nil pass0))))))), ?_⟩

  obtain ⟨L, m, z, p, n, rfl, B, hm, h0, hz, kk⟩ := h
  rw [show L2.start ["self", "number", "price", "amount", "order"] [V.ref L.bk, V.int z, V.int p, V.int n] = [some (.ref L.bk), some (.int z), some (.int p), some (.int n), none] from rfl]
  obtain ⟨dx, hb⟩ := B.ob
  obtain ⟨kvs, hd, kn⟩ := B.kd
  have AP := B.ap
  simp only [cxOf, Cx.nox, tSeq, tNext, tRet, tRetN, tDrop, tIfS, tVar, tC, tOp, tUn, tTest, tB, tAnd, tOr, tNot, tAndV, tOrV, tNotV, tIf, tFld, sFld, sFldAug, tAsg, gName, tAug, tCons, tNil, tCB, tCall, tMeth, tChain, sDPut, tDGet, tDIn, tDNotIn, tDGet1, tDPop1, tBM, tBM0, tLst, tTup, tDNewK, rI0, rI, CDiv, rU, L2.rAdd, L2.rSub, ipI, List.getElem?_cons_zero, List.getElem?_cons_succ, List.set_cons_zero, List.set_cons_succ, Option.some.injEq, exists_eq_left', exists_eq_left, V.ref.injEq, V.int.injEq, V.bl.injEq, HO.ins.injEq, HO.lst.injEq, HO.dK.injEq, HO.tup.injEq, and_assoc, true_and, and_true, exists_and_left, List.cons.injEq, List.append_nil, List.cons_append, List.nil_append, x_eq, x_ne, oF_inj, if_true, if_false, Bool.false_eq_true, ite_true, ite_false, eq_self_iff_true, T.clO, T.nO_number, T.nO_who, T.nO_side, T.nO_kind, T.nO_price, T.nO_amount, T.nO_trigger, oF_number, oF_who, oF_side, oF_kind, oF_price, oF_amount, oF_trigger, oF_put_number, oF_put_who, oF_put_side, oF_put_kind, oF_put_price, oF_put_amount, oF_put_trigger, T.clB, T.nB_lines, T.nB_waiting, T.nB_known, T.nB_latest, T.nB_in_auction, T.nB_events, bF_lines, bF_waiting, bF_known, bF_latest, bF_in_auction, bF_events, bF_put_latest, bF_put_in_auction, bF_put_events, hb, hd]
  have no : ∀ (H1 : Hp), [V.int (-1)].length ≤ sizeLine := fun _ => bigL (by show 1 ≤ 16000000; omega)
  refine ⟨.inl ⟨kvs, .inl hd⟩, ?_⟩
  cases e : (m.buys ++ m.sells).find? fun r => decide ((r.o.id : Int) = z) with
  | none =>
    rw [change_none e] at kk
    have ea : m.all.find? (fun r => decide ((r.o.id : Int) = z)) = m.waits.find? fun r => decide ((r.o.id : Int) = z) := by
      unfold M.all
      rw [List.find?_append, e]
      rfl
    cases e2 : m.waits.find? fun r => decide ((r.o.id : Int) = z) with
    | none =>
      refine ⟨_, DGet.k (k := Sum.inl z) hd, ?_⟩
      rw [kn.miss (ea.trans e2)]
      exact iteDT rfl ⟨no H, fun q hq => kk.no B (Fr.refl _ _) q hq⟩
    | some r =>
      obtain ⟨g1, hr, ez⟩ := kn.hit (ea.trans e2)
      have g : DGet H L.kd (.int z) (some (.ref r.a)) := g1 ▸ DGet.k (k := Sum.inl z) hd
      obtain ⟨dr, er⟩ := B.od r hr
      have hw := B.ok.w r (List.mem_of_find?_eq_some e2)
      have st : stopK r.w.k = true := by
        unfold stopK
        have ek : r.w.k = (r.k : Int) := rfl
        rw [ek]
        rcases hw.1 with h | h <;> rw [h] <;> rfl
      refine ⟨_, g, iteDF (fun h => nomatch h) ⟨r.a, dr, r.w, rfl, er, _, rfl, ?_⟩⟩
      rw [st]
      exact iteT ⟨no H, fun q hq => kk.no B (Fr.refl _ _) q hq⟩
  | some r =>
    rw [change_some e] at kk hz
    have ea : m.all.find? (fun r => decide ((r.o.id : Int) = z)) = some r := by
      unfold M.all
      rw [List.find?_append, e]
      rfl
    obtain ⟨g1, hr, ez⟩ := kn.hit ea
    have g : DGet H L.kd (.int z) (some (.ref r.a)) := g1 ▸ DGet.k (k := Sum.inl z) hd
    obtain ⟨dr, er⟩ := B.od r hr
    have Ar := B.ao ⟨dr, er⟩
    have hbs : r ∈ m.buys ∨ r ∈ m.sells := List.mem_append.mp (List.mem_of_find?_eq_some e)
    have hk : r.k = 0 ∨ r.k = 4 := by
      rcases hbs with h | h
      · exact (B.ok.b r h).2
      · exact (B.ok.s r h).2
    have st : stopK r.w.k = false := by
      unfold stopK
      have ek : r.w.k = (r.k : Int) := rfl
      rw [ek]
      rcases hk with h | h <;> rw [h] <;> rfl
    refine ⟨_, g, iteDF (fun h => nomatch h) ⟨r.a, dr, r.w, rfl, er, _, rfl, ?_⟩⟩
    rw [st]
    refine iteF ⟨p, rfl, _, rfl, ?_⟩
    cases ip : inR p with
    | false =>
      rw [if_pos (.inl ip)] at kk
      exact iteT ⟨no H, fun q hq => kk.no B (Fr.refl _ _) q hq⟩
    | true =>
      refine iteF ⟨n, rfl, _, rfl, ?_⟩
      cases iq : inR n with
      | false =>
        rw [if_pos (.inr iq)] at kk
        exact iteT ⟨no H, fun q hq => kk.no B (Fr.refl _ _) q hq⟩
      | true =>
        refine iteF ?_
        have ip := inR_iff.mp ip
        have iq := inR_iff.mp iq
        rw [if_neg (by rw [inR_iff.mpr ip, inR_iff.mpr iq]; simp)] at kk hz
        refine ⟨_, rfl, CO, dr, _, er, T.clO, T.nO_price, _, rfl, rfl, _, rfl, ?_⟩
        by_cases c1 : p = (r.o.price : Int)
        · refine iteDT (by rw [c1]; rfl) ⟨_, rfl, CO, dr, _, er, T.clO, T.nO_amount, _, rfl, _, rfl, ?_⟩
          by_cases c2 : n ≤ (r.o.amount : Int)
          · rw [if_pos ⟨c1, c2⟩] at kk
            refine iteDT c2 ⟨_, rfl, CO, dr, _, er, T.clO, T.nO_amount, by rw [oF_len]; omega, ?_⟩
            rw [oF_put_amount]
            have H1e : ∀ b o, H b = some o → b ≠ r.a → (upd H r.a (.ins CO dr (oF { r.w with m := n }))) b = some o := fun b o e hb => (upd_ne hb).trans e
            have hb1 := H1e _ _ hb Ar.rbk
            have ev1 := H1e _ _ B.ev Ar.rev
            have er1 : (upd H r.a (.ins CO dr (oF { r.w with m := n }))) r.a = some (.ins CO dr (oF { r.w with m := n })) := upd_same
            have f1 : Fr [r.a] H (upd H r.a (.ins CO dr (oF { r.w with m := n }))) := fr_upd
            generalize upd H r.a (.ins CO dr (oF { r.w with m := n })) = H1 at H1e hb1 ev1 er1 f1
            have B1 : BkAt CO CB L H1 (reM r.o.id n.toNat m) [] := by
              have key : ∀ y ∈ m.all, OAt CO H1 (reR r.o.id n.toNat y).a (reR r.o.id n.toNat y).w := fun y hy => by
                unfold reR
                by_cases cy : y.o.id = r.o.id
                · have : y = r := nodup_inj B.ok.ids hy hr cy
                  subst this
                  rw [if_pos rfl, setAm_w, Int.toNat_of_nonneg (by omega)]
                  exact ⟨dr, er1⟩
                · rw [if_neg cy]
                  obtain ⟨dy, hy2⟩ := B.od y hy
                  exact ⟨dy, H1e _ _ hy2 (addr_ne B.ok hy hr fun z => cy (by rw [z]))⟩
              refine B.re (f := reR r.o.id n.toNat) (p := m.last) (reR_am _ _) ⟨dx, hb1⟩ ev1 (fun q hq => ?_) f1 fun b hb => ?_
              · have hq : q ∈ m.buys.map (reR r.o.id n.toNat) ++ m.sells.map (reR r.o.id n.toNat) ++ m.waits := hq
                rcases List.mem_append.mp hq with h | h
                · rcases List.mem_append.mp h with h | h
                  · obtain ⟨y, hy, rfl⟩ := List.mem_map.mp h
                    exact key y (mem_all.mpr (.inl hy))
                  · obtain ⟨y, hy, rfl⟩ := List.mem_map.mp h
                    exact key y (mem_all.mpr (.inr (.inl hy)))
                · have hqa := mem_all.mpr (.inr (.inr h))
                  have := key q hqa
                  have nq : q.o.id ≠ r.o.id := by
                    rcases hbs with h2 | h2
                    · exact Ne.symm ((nodup_parts B.ok).2.2.2.2.1 r h2 q h)
                    · exact Ne.symm ((nodup_parts B.ok).2.2.2.2.2 r h2 q h)
                  unfold reR at this
                  rw [if_neg nq] at this
                  exact this
              · rw [List.mem_singleton.mp hb]
                exact ⟨Ar.tl, Ar.lb, Ar.ls, Ar.wl, Ar.kd⟩
            refine ⟨dx, _, hb1, bF_no_tell _ _ _, L, dx, m.last, m.auc, [], 2, z, 0, p, n, 0, rfl, hb1, ev1, Nat.zero_le _, fun H2 e2 f2 => ?_⟩
            have B2 := B1.tell e2 f2
            have ee : ([] ++ [2, z, 0, p, n, 0] : List Int) = flat [.rests r.o.id p.toNat n.toNat] := by
              show [(2 : Int), z, 0, p, n, 0] = [(2 : Int), (r.o.id : Int), 0, (p.toNat : Int), (n.toNat : Int), 0]
              rw [Int.toNat_of_nonneg (by omega), Int.toNat_of_nonneg (by omega), ez]
            rw [ee] at B2
            obtain ⟨dx2, hb2⟩ := B2.ob
            exact ⟨dx2, _, hb2, bF_no_answer _ _ _, kk.told B2 (by rw [flat_len, List.length_cons, List.length_nil]; omega) (f1.trans f2 (fun b hb => .inl (by rw [List.mem_singleton.mp hb]; exact foot_od hr)) fun b hb => .inl (foot_own (.inr (.inr (.inr (.inr (.inr (List.mem_singleton.mp hb))))))))⟩
          · refine iteDF c2 ?_
            rw [if_neg (fun h => c2 h.2)] at kk hz
            refine ⟨dx, _, hb, bF_no_take_out _ _ _, L, m, [], r, rfl, B, hr, fun H1 B1 f1 => ?_⟩
            have er1 := fr_at f1 er fun y hy => by
              simp only [List.mem_cons, List.not_mem_nil, or_false] at hy
              rcases hy with rfl | rfl | rfl | rfl
              · exact Ar.lb
              · exact Ar.ls
              · exact Ar.wl
              · exact Ar.kd
            refine ⟨_, rfl, CO, dr, _, er1, T.clO, T.nO_kind, by rw [oF_len]; omega, ?_⟩
            rw [oF_put_kind]
            refine ⟨_, rfl, CO, dr, _, upd_same, T.clO, T.nO_price, by rw [oF_len]; omega, ?_⟩
            rw [oF_put_price]
            refine ⟨_, rfl, CO, dr, _, upd_same, T.clO, T.nO_amount, by rw [oF_len]; omega, ?_⟩
            rw [oF_put_amount]
            have ew : ({ r.w with k := 0, p := p, m := n } : W) = (newR r p.toNat n.toNat).w := by
              show W.mk _ _ _ _ _ _ _ = W.mk _ _ _ _ ((p.toNat : Nat) : Int) ((n.toNat : Nat) : Int) _
              rw [Int.toNat_of_nonneg (by omega), Int.toNat_of_nonneg (by omega)]
              rfl
            have ew2 : ∀ x : W, x = { r.w with k := 0, p := p, m := n } → oF x = oF (newR r p.toNat n.toNat).w := fun x hx => by rw [hx, ew]
            rw [ew2 _ rfl]
            have F2 : Fr [r.a] H1 (upd (upd (upd H1 r.a (.ins CO dr (oF { r.w with k := 0 }))) r.a (.ins CO dr (oF { r.w with k := 0, p := p }))) r.a (.ins CO dr (oF (newR r p.toNat n.toNat).w))) := (fr_upd.trans fr_upd (zs := [r.a]) (fun b hb => .inl hb) fun b hb => .inl hb).trans fr_upd (fun b hb => .inl hb) fun b hb => .inl hb
            have er2 : (upd (upd (upd H1 r.a (.ins CO dr (oF { r.w with k := 0 }))) r.a (.ins CO dr (oF { r.w with k := 0, p := p }))) r.a (.ins CO dr (oF (newR r p.toNat n.toNat).w))) r.a = some (.ins CO dr (oF (newR r p.toNat n.toNat).w)) := upd_same
            generalize upd (upd (upd H1 r.a (.ins CO dr (oF { r.w with k := 0 }))) r.a (.ins CO dr (oF { r.w with k := 0, p := p }))) r.a (.ins CO dr (oF (newR r p.toNat n.toNat).w)) = H2 at F2 er2
            have out : Out (newR r p.toNat n.toNat) (delM r.o.id m) := ⟨fun hm2 => by
              obtain ⟨x, hx, e2⟩ := List.mem_map.mp hm2
              obtain ⟨x1, x2⟩ := del_in hx
              exact x2 (by rw [nodup_inj B.ok.addr x1 hr e2]), fun hm2 => by
              obtain ⟨x, hx, e2⟩ := List.mem_map.mp hm2
              exact (del_in hx).2 e2⟩
            have B2 := B1.keepO ⟨dr, er1⟩ out.a F2
            obtain ⟨dx2, hb2⟩ := B2.ob
            have hz : (flat (arriveM (newR r p.toNat n.toNat) (delM r.o.id m)).2).length ≤ 10000000 := Nat.le_trans (Nat.le_succ _) hz
            have dl := del_len r.o.id m
            refine ⟨dx2, _, hb2, bF_no_arrive _ _ _, L, delM r.o.id m, [], newR r p.toNat n.toNat, rfl, B2, ⟨dr, er2⟩, out, (h0 r hbs).symm, fun _ => rfl, by omega, hz, fun H3 B3 f3 => ?_⟩
            obtain ⟨dx3, hb3⟩ := B3.ob
            refine ⟨dx3, _, hb3, bF_no_answer _ _ _, kk.told B3 hz (((f1.trans F2 (zs := foot L m) (fun b hb => .inl (foot_own ?_)) fun b hb => .inl ?_)).trans f3 (fun b hb => .inl hb) fun b hb => .inl ?_)⟩
            · simp only [List.mem_cons, List.not_mem_nil, or_false] at hb
              rcases hb with h | h | h | h
              · exact .inr (.inl h)
              · exact .inr (.inr (.inl h))
              · exact .inr (.inr (.inr (.inl h)))
              · exact .inr (.inr (.inr (.inr (.inl h))))
            · rw [List.mem_singleton.mp hb]
              exact foot_od hr
            · rcases List.mem_cons.mp hb with h | h
              · rw [h]
                exact foot_od (r := r) hr
              · exact (sub_del _ _).foot h
        · refine iteDF (fun h => c1 (V.int.inj h)) ?_
          rw [if_neg (fun h => c1 h.1)] at kk hz
          refine ⟨dx, _, hb, bF_no_take_out _ _ _, L, m, [], r, rfl, B, hr, fun H1 B1 f1 => ?_⟩
          have er1 := fr_at f1 er fun y hy => by
            simp only [List.mem_cons, List.not_mem_nil, or_false] at hy
            rcases hy with rfl | rfl | rfl | rfl
            · exact Ar.lb
            · exact Ar.ls
            · exact Ar.wl
            · exact Ar.kd
          refine ⟨_, rfl, CO, dr, _, er1, T.clO, T.nO_kind, by rw [oF_len]; omega, ?_⟩
          rw [oF_put_kind]
          refine ⟨_, rfl, CO, dr, _, upd_same, T.clO, T.nO_price, by rw [oF_len]; omega, ?_⟩
          rw [oF_put_price]
          refine ⟨_, rfl, CO, dr, _, upd_same, T.clO, T.nO_amount, by rw [oF_len]; omega, ?_⟩
          rw [oF_put_amount]
          have ew : ({ r.w with k := 0, p := p, m := n } : W) = (newR r p.toNat n.toNat).w := by
            show W.mk _ _ _ _ _ _ _ = W.mk _ _ _ _ ((p.toNat : Nat) : Int) ((n.toNat : Nat) : Int) _
            rw [Int.toNat_of_nonneg (by omega), Int.toNat_of_nonneg (by omega)]
            rfl
          have ew2 : ∀ x : W, x = { r.w with k := 0, p := p, m := n } → oF x = oF (newR r p.toNat n.toNat).w := fun x hx => by rw [hx, ew]
          rw [ew2 _ rfl]
          have F2 : Fr [r.a] H1 (upd (upd (upd H1 r.a (.ins CO dr (oF { r.w with k := 0 }))) r.a (.ins CO dr (oF { r.w with k := 0, p := p }))) r.a (.ins CO dr (oF (newR r p.toNat n.toNat).w))) := (fr_upd.trans fr_upd (zs := [r.a]) (fun b hb => .inl hb) fun b hb => .inl hb).trans fr_upd (fun b hb => .inl hb) fun b hb => .inl hb
          have er2 : (upd (upd (upd H1 r.a (.ins CO dr (oF { r.w with k := 0 }))) r.a (.ins CO dr (oF { r.w with k := 0, p := p }))) r.a (.ins CO dr (oF (newR r p.toNat n.toNat).w))) r.a = some (.ins CO dr (oF (newR r p.toNat n.toNat).w)) := upd_same
          generalize upd (upd (upd H1 r.a (.ins CO dr (oF { r.w with k := 0 }))) r.a (.ins CO dr (oF { r.w with k := 0, p := p }))) r.a (.ins CO dr (oF (newR r p.toNat n.toNat).w)) = H2 at F2 er2
          have out : Out (newR r p.toNat n.toNat) (delM r.o.id m) := ⟨fun hm2 => by
            obtain ⟨x, hx, e2⟩ := List.mem_map.mp hm2
            obtain ⟨x1, x2⟩ := del_in hx
            exact x2 (by rw [nodup_inj B.ok.addr x1 hr e2]), fun hm2 => by
            obtain ⟨x, hx, e2⟩ := List.mem_map.mp hm2
            exact (del_in hx).2 e2⟩
          have B2 := B1.keepO ⟨dr, er1⟩ out.a F2
          obtain ⟨dx2, hb2⟩ := B2.ob
          have hz : (flat (arriveM (newR r p.toNat n.toNat) (delM r.o.id m)).2).length ≤ 10000000 := Nat.le_trans (Nat.le_succ _) hz
          have dl := del_len r.o.id m
          refine ⟨dx2, _, hb2, bF_no_arrive _ _ _, L, delM r.o.id m, [], newR r p.toNat n.toNat, rfl, B2, ⟨dr, er2⟩, out, (h0 r hbs).symm, fun _ => rfl, by omega, hz, fun H3 B3 f3 => ?_⟩
          obtain ⟨dx3, hb3⟩ := B3.ob
          refine ⟨dx3, _, hb3, bF_no_answer _ _ _, kk.told B3 hz (((f1.trans F2 (zs := foot L m) (fun b hb => .inl (foot_own ?_)) fun b hb => .inl ?_)).trans f3 (fun b hb => .inl hb) fun b hb => .inl ?_)⟩
          · simp only [List.mem_cons, List.not_mem_nil, or_false] at hb
            rcases hb with h | h | h | h
            · exact .inr (.inl h)
            · exact .inr (.inr (.inl h))
            · exact .inr (.inr (.inr (.inl h)))
            · exact .inr (.inr (.inr (.inr (.inl h))))
          · rw [List.mem_singleton.mp hb]
            exact foot_od hr
          · rcases List.mem_cons.mp hb with h | h
            · rw [h]
              exact foot_od (r := r) hr
            · exact (sub_del _ _).foot h
end
end SB
namespace SB
open PySem PySem.Spec PyProof.Rows L2
section
variable {P : Program} {w : World} {K : PySem.W.Frag} {mg : Str → Option Value} {base : Heap} {CO CB : Addr}
def spTakeOrder (K : PySem.W.Frag) (CO CB : Addr) : Sp := fun vs H Q _ => ∃ (L : Lay) (m : M) (l : Addr) (n w s k q a t : Int), vs = [.ref L.bk, .ref l] ∧ H l = some (.lst ([n, w, s, k, q, a, t].map V.int)) ∧ BkAt CO CB L H m [] ∧ m.all.length ≤ 2000 ∧
  ∀ p, (orderStep (W.init n w s k q a t) p m).2.length ≤ 10000000 ∧ Post CO CB L m H (orderStep (W.init n w s k q a t) p m).1 (orderStep (W.init n w s k q a t) p m).2 Q
theorem ln_Book_take_order {vs : List V} {H : Hp} {Q : VK} {E : XK} (h : spTakeOrder K CO CB vs H Q E) : vs.length = 2 := by
  obtain ⟨L, m, l, n, w, s, k, q, a, t, rfl, _⟩ := h
  rfl
theorem ok_Book_take_order {f : Addr} {fd : FuncData} (F : Fun K "take_order" "Book.take_order" s_Book_take_order f fd) (T : Txt K mg CO CB) {f_Order_init : Addr} {d_Order_init : FuncData} (G_Order_init : Gk P w K mg base 2 CO f_Order_init d_Order_init ["self", "numbers"] (spOrderInit K CO)) {f_is_as_told : Addr} {d_is_as_told : FuncData} (G_is_as_told : Gd P w K mg base 2 "is_as_told" f_is_as_told d_is_as_told ["order"] (spAsTold CO)) {f_is_stop : Addr} {d_is_stop : FuncData} (G_is_stop : Gd P w K mg base 1 "is_stop" f_is_stop d_is_stop ["order"] (spIsStop CO)) {f_Book_wait : Addr} {d_Book_wait : FuncData} (G_wait : Gm P w K mg base 7 CB "wait" f_Book_wait d_Book_wait ["self", "stop"] (spWait K CO CB)) {f_Book_arrive : Addr} {d_Book_arrive : FuncData} (G_arrive : Gm P w K mg base 8 CB "arrive" f_Book_arrive d_Book_arrive ["self", "order"] (spArrive K CO CB)) {f_Book_answer : Addr} {d_Book_answer : FuncData} (G_answer : Gm P w K mg base 1 CB "answer" f_Book_answer d_Book_answer ["self"] (spAnswer K CO CB)) : FnOk P w K mg base CX0 9 f fd ["self", "numbers"] (spTakeOrder K CO CB) := by
  refine F.ok sc_Book_take_order (fun vs H Q E h => ln_Book_take_order h) (fun cdv A outer s H vs Q E hr h => ?_)
  have hu := hu_of hr
  refine ⟨_, (pss_cons (ps_set (i := 2) sc_Book_take_order.nd rfl (Or.inl rfl) (pe_make G_Order_init.mm G_Order_init.ok (hr.mono (by decide)) rfl T.gO G_Order_init.b .nil pass0 (pa_cons (pv 1) pa_nil)))
    (pss_cons (ps_if (PW.pt (pw_or (pt_not (pt_val (pe_call G_is_as_told.ok (hr.mono (by decide)) rfl G_is_as_told.mg G_is_as_told.kp G_is_as_told.b .nil pass0 (pa_cons (pv 2) pa_nil)))) (pw_or1 (pt_cmp (pc_din hu (pe_fld (pv 2) rfl) (pe_fld (pv 0) rfl))))))
      (pss_one (ps_ret (pe_lst (pa_cons (pe_un un_neg pe_int) pa_nil))))
      pss_nil)
    (pss_cons (ps_if (pt_cmpR op_ge (pe_callB call_lenD (by rfl) T.b_len PySem.boot_len (pa_cons (pe_fld (pv 0) rfl) pa_nil)) (pg_int rfl T.c_MOST_ORDERS) (nomark _))
      (pss_one (ps_ret (pe_lst (pa_cons (pe_un un_neg pe_int) pa_nil))))
      pss_nil)
    (pss_cons (ps_if (PW.pt (pw_and (pt_val (pe_fld (pv 0) rfl)) (pw_and (pt_cmpR op_ne (pe_fld (pv 2) rfl) (pg_int rfl T.c_LIMIT) (nomark _)) (pw_and1 (pt_not (pt_val (pe_call G_is_stop.ok (hr.mono (by decide)) rfl G_is_stop.mg G_is_stop.kp G_is_stop.b .nil pass0 (pa_cons (pv 2) pa_nil))))))))
      (pss_one (ps_ret (pe_lst (pa_cons (pe_un un_neg pe_int) pa_nil))))
      pss_nil)
    (pss_cons (ps_if (pt_val (pe_call G_is_stop.ok (hr.mono (by decide)) rfl G_is_stop.mg G_is_stop.kp G_is_stop.b .nil pass0 (pa_cons (pv 2) pa_nil)))
      (pss_one (ps_expr (pe_meth (pv 0) T.clB G_wait.m G_wait.ok (hr.mono (by decide)) G_wait.b .nil pass0 (pa_cons (pv 2) pa_nil))))
      (pss_one (ps_expr (pe_meth (pv 0) T.clB G_arrive.m G_arrive.ok (hr.mono (by decide)) G_arrive.b .nil pass0 (pa_cons (pv 2) pa_nil)))))
    (pss_one (ps_ret (pe_meth0 (pv 0) T.clB G_answer.m G_answer.ok (hr.mono (by decide)) G_answer.b .nil pass0)))))))), ?_⟩

  obtain ⟨L, m, l, n, w2, s2, k, q, am, t, rfl, hl, B, hm, kk⟩ := h
  rw [show L2.start ["self", "numbers", "order"] [V.ref L.bk, V.ref l] = [some (.ref L.bk), some (.ref l), none] from rfl]
  obtain ⟨dx, hb⟩ := B.ob
  obtain ⟨kvs, hd, kn⟩ := B.kd
  have AP := B.ap
  refine ⟨_, rfl, fun x dx2 hx hdx ne => ?_⟩
  have fa : Fr [] H (upd (upd H dx2 (.own x)) x (.ins CO dx2 [])) := (fr_new hdx).trans (fr_new ((upd_ne ne.symm).trans hx)) (fun b hb => nomatch hb) fun b hb => nomatch hb
  refine ⟨x, dx2, l, n, w2, s2, k, q, am, t, rfl, upd_same, fr_nil fa hl, fun H1 e1 f1 => ⟨rfl, ?_⟩⟩
  have F1 : Fr [] H H1 := fa.trans f1 (fun b hb => nomatch hb) fun b hb => .inr (by rw [List.mem_singleton.mp hb]; exact hx)
  obtain ⟨hz, kk⟩ := kk x
  have hpX := init_p n w2 s2 k q am t
  generalize W.init n w2 s2 k q am t = X at e1 hz kk hpX
  have B1 := B.keep0 F1
  have hb1 := fr_nil F1 hb
  have hd1 := fr_nil F1 hd
  have Fm : Fr (foot L m) H H1 := F1.mono fun b hb => nomatch hb
  have no : ∀ (z : Int) (_ : Hp), [V.int z].length ≤ sizeLine := fun _ _ => bigL (by show 1 ≤ 16000000; omega)
  refine ⟨_, rfl, x, dx2, X, rfl, e1, _, rfl, ?_⟩
  cases ht : asTold X with
  | false =>
    rw [show orderStep X x m = (m, [-1]) from if_pos (.inl ht)] at kk
    exact iteT (iteT ⟨1, rfl, no _ H1, fun p hp => kk.no B1 Fm p hp⟩)
  | true =>
    have told := told_of ht
    refine iteF ?_
    change tB _ [some (.ref L.bk), some (.ref l), some (.ref x)] H1 _
    simp only [cxOf, Cx.nox, tSeq, tNext, tRet, tRetN, tDrop, tIfS, tVar, tC, tOp, tUn, tTest, tB, tAnd, tOr, tNot, tAndV, tOrV, tNotV, tIf, tFld, sFld, sFldAug, tAsg, gName, tAug, tCons, tNil, tCB, tCall, tMeth, tChain, sDPut, tDGet, tDIn, tDNotIn, tDGet1, tDPop1, tBM, tBM0, tLst, tTup, tDNewK, rI0, rI, CDiv, rU, L2.rAdd, L2.rSub, ipI, List.getElem?_cons_zero, List.getElem?_cons_succ, List.set_cons_zero, List.set_cons_succ, Option.some.injEq, exists_eq_left', exists_eq_left, V.ref.injEq, V.int.injEq, V.bl.injEq, HO.ins.injEq, HO.lst.injEq, HO.dK.injEq, HO.tup.injEq, and_assoc, true_and, and_true, exists_and_left, List.cons.injEq, List.append_nil, List.cons_append, List.nil_append, x_eq, x_ne, oF_inj, if_true, if_false, Bool.false_eq_true, ite_true, ite_false, eq_self_iff_true, T.clO, T.nO_number, T.nO_who, T.nO_side, T.nO_kind, T.nO_price, T.nO_amount, T.nO_trigger, oF_number, oF_who, oF_side, oF_kind, oF_price, oF_amount, oF_trigger, oF_put_number, oF_put_who, oF_put_side, oF_put_kind, oF_put_price, oF_put_amount, oF_put_trigger, T.clB, T.nB_lines, T.nB_waiting, T.nB_known, T.nB_latest, T.nB_in_auction, T.nB_events, bF_lines, bF_waiting, bF_known, bF_latest, bF_in_auction, bF_events, bF_put_latest, bF_put_in_auction, bF_put_events, e1, hb1, hd1]
    have hfx := ord_facts told hpX
    have hw := toR_w x told hpX
    refine ⟨_, DGet.k (k := Sum.inl X.n) hd1, ?_⟩
    cases ef : m.all.find? fun r => decide ((r.o.id : Int) = X.n) with
    | some r =>
      obtain ⟨g1, hr, er⟩ := kn.hit ef
      have hany : (m.all.any fun r => decide ((r.o.id : Int) = X.n)) = true := (any_iff m X.n).mpr ⟨r, hr, er⟩
      rw [show orderStep X x m = (m, [-1]) from if_pos (.inr hany)] at kk
      rw [g1]
      exact iteT ⟨no _ H1, fun p hp => kk.no B1 Fm p hp⟩
    | none =>
      rw [kn.miss ef]
      refine iteF ?_
      have hany : ¬ (asTold X = false ∨ (m.all.any fun r => decide ((r.o.id : Int) = X.n)) = true) := by
        rintro (h | h)
        · rw [ht] at h
          cases h
        · obtain ⟨r, hr, er⟩ := (any_iff m X.n).mp h
          have := List.find?_eq_none.mp ef r hr
          exact this (decide_eq_true er)
      have s1 : orderStep X x m = if 1024 ≤ m.all.length then (m, [-2])
          else if m.auc = true ∧ X.k ≠ 0 ∧ stopK X.k = false then (m, [-2])
          else if stopK X.k = true then ((waitM (X.toR x) m).1, ans (waitM (X.toR x) m).2)
          else ((arriveM (X.toR x) m).1, ans (arriveM (X.toR x) m).2) := if_neg hany
      rw [s1] at kk hz
      by_cases c1 : 1024 ≤ m.all.length
      · rw [if_pos c1] at kk
        exact iteDT (by rw [kn.len]; omega) ⟨no _ H1, fun p hp => kk.no B1 Fm p hp⟩
      · refine iteDF (by rw [kn.len]; omega) ?_
        rw [if_neg c1] at kk hz
        have out : Out (X.toR x) m := by
          refine ⟨fun hm2 => ?_, fun hm2 => ?_⟩
          · obtain ⟨y, hy, e2⟩ := List.mem_map.mp hm2
            obtain ⟨dy, hy2⟩ := B.od y hy
            have e2 : y.a = x := e2
            rw [e2, hx] at hy2
            cases hy2
          · obtain ⟨y, hy, e2⟩ := List.mem_map.mp hm2
            have e2 : y.o.id = X.ord.id := e2
            have := List.find?_eq_none.mp ef y hy
            refine this (decide_eq_true ?_)
            rw [e2]
            exact hfx.2.2.2.2.2
        have oat : OAt CO H1 (X.toR x).a (X.toR x).w := ⟨dx2, by rw [hw]; exact e1⟩
        have fin : ∀ (hz : (if stopK X.k = true then ((waitM (X.toR x) m).1, ans (waitM (X.toR x) m).2) else ((arriveM (X.toR x) m).1, ans (arriveM (X.toR x) m).2)).2.length ≤ 10000000)
            (kk : Post CO CB L m H (if stopK X.k = true then ((waitM (X.toR x) m).1, ans (waitM (X.toR x) m).2) else ((arriveM (X.toR x) m).1, ans (arriveM (X.toR x) m).2)).1 (if stopK X.k = true then ((waitM (X.toR x) m).1, ans (waitM (X.toR x) m).2) else ((arriveM (X.toR x) m).1, ans (arriveM (X.toR x) m).2)).2 Q)
            (hau : m.auc = true → stopK X.k = false → X.k = 0),
            spIsStop CO [V.ref x] H1 (fun v H1 => ∃ c, v = V.bl c ∧ if c = true then ∃ x_3 x_4, H1 L.bk = some (.ins CB x_3 x_4) ∧ List.lookup (Str.ofString "wait") x_4 = none ∧ spWait K CO CB [V.ref L.bk, V.ref x] H1 (fun _ H1 => ∃ x x_5, H1 L.bk = some (.ins CB x x_5) ∧ List.lookup (Str.ofString "answer") x_5 = none ∧ spAnswer K CO CB [V.ref L.bk] H1 Q E0) E0
              else ∃ x_3 x_4, H1 L.bk = some (.ins CB x_3 x_4) ∧ List.lookup (Str.ofString "arrive") x_4 = none ∧ spArrive K CO CB [V.ref L.bk, V.ref x] H1 (fun _ H1 => ∃ x x_5, H1 L.bk = some (.ins CB x x_5) ∧ List.lookup (Str.ofString "answer") x_5 = none ∧ spAnswer K CO CB [V.ref L.bk] H1 Q E0) E0) E0 := fun hz kk hau => by
          refine ⟨x, dx2, X, rfl, e1, _, rfl, ?_⟩
          cases st : stopK X.k with
          | true =>
            rw [if_pos st] at kk hz
            have hz : (flat (waitM (X.toR x) m).2).length ≤ 10000000 := Nat.le_trans (Nat.le_succ _) hz
            have hk56 : X.k = 5 ∨ X.k = 6 := by
              unfold stopK at st
              simpa using st
            refine iteT ⟨dx, _, hb1, bF_no_wait _ _ _, L, m, [], X.toR x, rfl, B1, oat, out, ⟨?_, rfl, ?_⟩, hm, hz, fun H2 B2 f2 => ?_⟩
            · show X.k.toNat = 5 ∨ X.k.toNat = 6
              omega
            · show X.t = ((if X.k.toNat < 5 then 0 else X.t.toNat : Nat) : Int)
              have := inR_iff.mp (told.t st)
              rw [if_neg (by omega)]
              omega
            · obtain ⟨dx3, hb3⟩ := B2.ob
              exact ⟨dx3, _, hb3, bF_no_answer _ _ _, kk.told B2 hz (Fm.trans f2 (fun b hb => .inl hb) fun b hb => (List.mem_cons.mp hb).elim (fun h => .inr (h ▸ hx)) .inl)⟩
          | false =>
            rw [if_neg (by rw [st]; decide)] at kk hz
            have hz : (flat (arriveM (X.toR x) m).2).length ≤ 10000000 := Nat.le_trans (Nat.le_succ _) hz
            refine iteF ⟨dx, _, hb1, bF_no_arrive _ _ _, L, m, [], X.toR x, rfl, B1, oat, out, rfl, fun h => ?_, hm, hz, fun H2 B2 f2 => ?_⟩
            · show X.k.toNat = 0
              have := hau h st
              omega
            · obtain ⟨dx3, hb3⟩ := B2.ob
              exact ⟨dx3, _, hb3, bF_no_answer _ _ _, kk.told B2 hz (Fm.trans f2 (fun b hb => .inl hb) fun b hb => (List.mem_cons.mp hb).elim (fun h => .inr (h ▸ hx)) .inl)⟩
        by_cases c2 : m.auc = true ∧ X.k ≠ 0 ∧ stopK X.k = false
        · rw [if_pos c2] at kk
          obtain ⟨a1, a2, a3⟩ := c2
          rw [if_pos a1, decide_eq_false a2]
          refine iteT ⟨x, dx2, X, rfl, e1, _, rfl, ?_⟩
          rw [a3]
          exact iteT ⟨no _ H1, fun p hp => kk.no B1 Fm p hp⟩
        · rw [if_neg c2] at kk hz
          have fin := fin hz kk fun h1 h2 => Decidable.byContradiction fun h3 => c2 ⟨h1, h3, h2⟩
          by_cases a1 : m.auc = true
          · rw [if_pos a1]
            by_cases a2 : X.k = 0
            · rw [decide_eq_true a2]
              exact iteF fin
            · rw [decide_eq_false a2]
              refine iteT ⟨x, dx2, X, rfl, e1, _, rfl, ?_⟩
              have a3 : stopK X.k = true := by
                cases h : stopK X.k with
                | true => rfl
                | false => exact absurd ⟨a1, a2, h⟩ c2
              rw [a3]
              exact iteF fin
          · rw [if_neg a1]
            exact fin
end
end SB
namespace SB
open PySem PySem.Spec PyProof.Rows L2
section
variable {P : Program} {w : World} {K : PySem.W.Frag} {mg : Str → Option Value} {base : Heap} {CO CB : Addr}
def spAnswerCall (K : PySem.W.Frag) (CO CB : Addr) : Sp := fun vs H Q _ => ∃ (L : Lay) (m : M) (b : Sd17.Book) (l : Addr) (code : Int) (nums : List Int), vs = [.ref L.bk, .int code, .ref l] ∧ Form [code :: nums] ∧ H l = some (.lst (nums.map V.int)) ∧ BkAt CO CB L H m [] ∧ Fit m b ∧
  (Sd17Neutral.step b [code :: nums]).2.length ≤ 10000000 ∧ ∀ m', Fit m' (Sd17Neutral.step b [code :: nums]).1 → Post CO CB L m H m' (Sd17Neutral.step b [code :: nums]).2 Q
theorem ln_answer_call {vs : List V} {H : Hp} {Q : VK} {E : XK} (h : spAnswerCall K CO CB vs H Q E) : vs.length = 3 := by
  obtain ⟨L, m, b, l, code, nums, rfl, _⟩ := h
  rfl
theorem ni {a b : Int} (h : a ≠ b) : ¬ V.int a = V.int b := fun e => h (V.int.inj e)
theorem ok_answer_call {f : Addr} {fd : FuncData} (F : Fun K "answer_call" "answer_call" s_answer_call f fd) (T : Txt K mg CO CB) {f_Book_take_order : Addr} {d_Book_take_order : FuncData} (G_take_order : Gm P w K mg base 9 CB "take_order" f_Book_take_order d_Book_take_order ["self", "numbers"] (spTakeOrder K CO CB)) {f_Book_cancel : Addr} {d_Book_cancel : FuncData} (G_cancel : Gm P w K mg base 3 CB "cancel" f_Book_cancel d_Book_cancel ["self", "number"] (spCancel K CO CB)) {f_Book_change : Addr} {d_Book_change : FuncData} (G_change : Gm P w K mg base 9 CB "change" f_Book_change d_Book_change ["self", "number", "price", "amount"] (spChange K CO CB)) {f_Book_auction : Addr} {d_Book_auction : FuncData} (G_auction : Gm P w K mg base 7 CB "auction" f_Book_auction d_Book_auction ["self", "on"] (spAuction K CO CB)) {f_Book_look : Addr} {d_Book_look : FuncData} (G_look : Gm P w K mg base 3 CB "look" f_Book_look d_Book_look ["self"] (spLook K CO CB)) : FnOk P w K mg base CX0 10 f fd ["book", "call", "numbers"] (spAnswerCall K CO CB) := by
  refine F.ok sc_answer_call (fun vs H Q E h => ln_answer_call h) (fun cdv A outer s H vs Q E hr h => ?_)
  have hu := hu_of hr
  refine ⟨_, (pss_cons (ps_if (pt_cmpR op_eq (pv 1) (pg_int rfl T.c_ORDER) (nomark _))
      (pss_one (ps_ret (pe_meth (pv 0) T.clB G_take_order.m G_take_order.ok (hr.mono (by decide)) G_take_order.b .nil pass0 (pa_cons (pv 2) pa_nil))))
      pss_nil)
    (pss_cons (ps_if (pt_cmpR op_eq (pv 1) (pg_int rfl T.c_CANCEL) (nomark _))
      (pss_one (ps_ret (pe_meth (pv 0) T.clB G_cancel.m G_cancel.ok (hr.mono (by decide)) G_cancel.b .nil pass0 (pa_cons (pe_ix ix_list (pv 2) pe_int (fun _ _ => rfl)) pa_nil))))
      pss_nil)
    (pss_cons (ps_if (pt_cmpR op_eq (pv 1) (pg_int rfl T.c_CHANGE) (nomark _))
      (pss_one (ps_ret (pe_meth (pv 0) T.clB G_change.m G_change.ok (hr.mono (by decide)) G_change.b .nil pass0 (pa_cons (pe_ix ix_list (pv 2) pe_int (fun _ _ => rfl)) (pa_cons (pe_ix ix_list (pv 2) pe_int (fun _ _ => rfl)) (pa_cons (pe_ix ix_list (pv 2) pe_int (fun _ _ => rfl)) pa_nil))))))
      pss_nil)
    (pss_cons (ps_if (pt_cmpR op_eq (pv 1) (pg_int rfl T.c_AUCTION) (nomark _))
      (pss_one (ps_ret (pe_meth (pv 0) T.clB G_auction.m G_auction.ok (hr.mono (by decide)) G_auction.b .nil pass0 (pa_cons (pe_ix ix_list (pv 2) pe_int (fun _ _ => rfl)) pa_nil))))
      pss_nil)
    (pss_one (ps_ret (pe_meth0 (pv 0) T.clB G_look.m G_look.ok (hr.mono (by decide)) G_look.b .nil pass0))))))), ?_⟩

  obtain ⟨L, m, b, l, code, nums, rfl, fm, hl, B, F, hz, kk⟩ := h
  rw [show L2.start ["book", "call", "numbers"] [V.ref L.bk, V.int code, V.ref l] = [some (.ref L.bk), some (.int code), some (.ref l)] from rfl]
  obtain ⟨dx, hb⟩ := B.ob
  have hal : m.all.length ≤ 2000 := by
    have h1 := all_len F.rel
    have h2 := F.cnt
    omega
  cases fm with
  | order n w s k p q t h =>
    refine ⟨_, rfl, rfl, _, rfl, iteDT rfl ⟨.ref L.bk, rfl, L.bk, dx, _, rfl, hb, bF_no_take_order _ _ _, _, rfl, L, m, l, n, w, s, k, p, q, t, rfl, hl, B, hal, fun a => ?_⟩⟩
    obtain ⟨f1, f2⟩ := order_fit F a h (w := w) (s := s) (k := k) (p := p) (q := q) (t := t)
    rw [f2]
    exact ⟨hz, kk _ f1⟩
  | cancel z =>
    obtain ⟨f1, f2⟩ := cancel_fit F z
    refine ⟨_, rfl, rfl, _, rfl, iteDF (ni (by decide)) ⟨_, rfl, rfl, _, rfl, iteDT rfl ⟨.ref L.bk, rfl, L.bk, dx, _, rfl, hb, bF_no_cancel _ _ _, _, rfl, l, _, _, _, rfl, rfl, SqL.of hl, at0, L, m, z, rfl, B, ?_⟩⟩⟩
    rw [f2]
    exact kk _ f1
  | change z p n =>
    obtain ⟨f1, f2⟩ := change_fit F z p n
    refine ⟨_, rfl, rfl, _, rfl, iteDF (ni (by decide)) ⟨_, rfl, rfl, _, rfl, iteDF (ni (by decide)) ⟨_, rfl, rfl, _, rfl, iteDT rfl ⟨.ref L.bk, rfl, L.bk, dx, _, rfl, hb, bF_no_change _ _ _, _, rfl, l, _, _, _, rfl, rfl, SqL.of hl, at0,
      _, rfl, l, _, _, _, rfl, rfl, SqL.of hl, atI_nat (j := 1) rfl, _, rfl, l, _, _, _, rfl, rfl, SqL.of hl, atI_nat (j := 2) rfl, L, m, z, p, n, rfl, B, hal, fun r hr => ?_, ?_, ?_⟩⟩⟩⟩
    · rcases hr with hr | hr
      · have h1 : r.o ∈ lineOf true b.rest := F.rel.buys ▸ List.mem_map.mpr ⟨r, hr, rfl⟩
        exact (F.good.rest r.o (lineOf_mem.mp h1).1).1
      · have h1 : r.o ∈ lineOf false b.rest := F.rel.sells ▸ List.mem_map.mpr ⟨r, hr, rfl⟩
        exact (F.good.rest r.o (lineOf_mem.mp h1).1).1
    · rw [f2]
      exact hz
    · rw [f2]
      exact kk _ f1
  | auction on =>
    refine ⟨_, rfl, rfl, _, rfl, iteDF (ni (by decide)) ⟨_, rfl, rfl, _, rfl, iteDF (ni (by decide)) ⟨_, rfl, rfl, _, rfl, iteDF (ni (by decide)) ⟨_, rfl, rfl, _, rfl, iteDT rfl ⟨.ref L.bk, rfl, L.bk, dx, _, rfl, hb, bF_no_auction _ _ _, _, rfl, l, _, _, _, rfl, rfl, SqL.of hl, at0, L, m, on, rfl, B, hal, fun ps hps => ?_⟩⟩⟩⟩⟩
    obtain ⟨f1, f2⟩ := auction_fit F on ps hps
    rw [f2]
    exact ⟨hz, kk _ f1⟩
  | look =>
    refine ⟨_, rfl, rfl, _, rfl, iteDF (ni (by decide)) ⟨_, rfl, rfl, _, rfl, iteDF (ni (by decide)) ⟨_, rfl, rfl, _, rfl, iteDF (ni (by decide)) ⟨_, rfl, rfl, _, rfl, iteDF (ni (by decide)) ⟨.ref L.bk, rfl, L.bk, dx, _, rfl, hb, bF_no_look _ _ _, L, m, rfl, B, hal, fun ps hps => ?_⟩⟩⟩⟩⟩
    have e := look_fit F ps hps
    have kk := kk m (by rw [e]; exact F)
    rw [e] at kk
    exact kk
def spBookInit (CB : Addr) : Sp := fun vs H Q _ => ∃ p dx, vs = [.ref p] ∧ H p = some (.ins CB dx []) ∧
  ∀ (L : Lay) (H' : Hp), L.bk = p → (∃ dx, H' p = some (.ins CB dx (bF L 0 false))) → H' L.tl = some (.tup [.ref L.lb, .ref L.ls]) → H' L.lb = some (.lst []) → H' L.ls = some (.lst []) → H' L.wl = some (.lst []) → H' L.kd = some (.dK []) → H' L.ev = some (.lst []) →
    (L.lb ≠ L.ls ∧ L.lb ≠ L.wl ∧ L.ls ≠ L.wl ∧ L.ev ≠ L.lb ∧ L.ev ≠ L.ls ∧ L.ev ≠ L.wl) → (∀ b ∈ [L.lb, L.ls, L.wl, L.ev], H b = none) → Fr [p] H H' → Q .non H'
theorem ln_Book_init {vs : List V} {H : Hp} {Q : VK} {E : XK} (h : spBookInit CB vs H Q E) : vs.length = 1 := by
  obtain ⟨p, dx, rfl, _⟩ := h
  rfl
theorem ok_Book_init {f : Addr} {fd : FuncData} (F : Fun K "__init__" "Book.__init__" s_Book_init f fd) (T : Txt K mg CO CB)  : FnOk P w K mg base CX0 1 f fd ["self"] (spBookInit CB) := by
  refine F.ok sc_Book_init (fun vs H Q E h => ln_Book_init h) (fun cdv A outer s H vs Q E hr h => ?_)
  have hu := hu_of hr
  refine ⟨_, (pss_cons (ps_fld (pv 0) (pe_tup (pa_cons (pe_lst pa_nil) (pa_cons (pe_lst pa_nil) pa_nil))) rfl)
    (pss_cons (ps_fld (pv 0) (pe_lst pa_nil) rfl)
    (pss_cons (ps_fld (pv 0) pe_dnewK rfl)
    (pss_cons (ps_fld (pv 0) pe_int rfl)
    (pss_cons (ps_fld (pv 0) pe_bl rfl)
    (pss_one (ps_fld (pv 0) (pe_lst pa_nil) rfl))))))), ?_⟩

  obtain ⟨p, dx, rfl, hp, kk⟩ := h
  rw [show L2.start ["self"] [V.ref p] = [some (.ref p)] from rfl]
  have nil0 : ([] : List V).length ≤ sizeLine := bigL (Nat.zero_le _)
  have none_of : ∀ {Hk : Hp} {o : HO} {b : Addr}, Fr [p] H Hk → Hk p = some o → Hk b = none → H b = none := fun {Hk o b} F e h => by
    cases e2 : H b with
    | none => rfl
    | some u =>
      have nb : b ≠ p := fun z => by
        rw [z, e] at h
        cases h
      have := F b u e2 (fun hm => nb (List.mem_singleton.mp hm))
      rw [this] at h
      cases h
  have new : ∀ {Hk : Hp} {a : Addr} (o : HO), Fr [p] H Hk → Hk a = none → Fr [p] H (upd Hk a o) := fun o F h => F.trans (fr_new h) (fun b hb => .inl hb) fun b hb => nomatch hb
  have own : ∀ {Hk : Hp} (o : HO), Fr [p] H Hk → Fr [p] H (upd Hk p o) := fun o F => F.trans (fr_upd (a := p)) (fun b hb => .inl hb) fun b hb => .inl hb
  have F0 : Fr [p] H H := Fr.refl _ _
  -- the two lines and their pair
  refine ⟨nil0, fun lb h1 => ?_⟩
  have F1 := new (.lst []) F0 h1
  have p1 := (upd_ne (o := .lst []) (ne_of_none hp h1)).trans hp
  have lb1 : (upd H lb (.lst [])) lb = some (.lst []) := upd_same
  generalize upd H lb (.lst []) = H1 at F1 p1 lb1
  refine ⟨nil0, fun ls h2 => ?_⟩
  have F2 := new (.lst []) F1 h2
  have n21 := ne_of_none lb1 h2
  have p2 := (upd_ne (o := .lst []) (ne_of_none p1 h2)).trans p1
  have lb2 := (upd_ne (o := .lst []) n21).trans lb1
  have ls2 : (upd H1 ls (.lst [])) ls = some (.lst []) := upd_same
  have z2 := none_of F1 p1 h2
  generalize upd H1 ls (.lst []) = H2 at F2 p2 lb2 ls2
  refine ⟨bigL (by show 2 ≤ 16000000; omega), fun tl h3 => ?_⟩
  have F3 := new (.tup [.ref lb, .ref ls]) F2 h3
  have p3 := (upd_ne (o := .tup [.ref lb, .ref ls]) (ne_of_none p2 h3)).trans p2
  have lb3 := (upd_ne (o := .tup [.ref lb, .ref ls]) (ne_of_none lb2 h3)).trans lb2
  have ls3 := (upd_ne (o := .tup [.ref lb, .ref ls]) (ne_of_none ls2 h3)).trans ls2
  have tl3 : (upd H2 tl (.tup [.ref lb, .ref ls])) tl = some (.tup [.ref lb, .ref ls]) := upd_same
  generalize upd H2 tl (.tup [.ref lb, .ref ls]) = H3 at F3 p3 lb3 ls3 tl3
  have nlb : lb ≠ p := ne_of lb3 p3 (by intro e; cases e)
  have nls : ls ≠ p := ne_of ls3 p3 (by intro e; cases e)
  have ntl : tl ≠ p := ne_of tl3 p3 (by intro e; cases e)
  have few : ∀ {n : Nat}, n ≤ 10 → n < 1000 := fun h => by omega
  refine ⟨_, rfl, p, CB, dx, _, rfl, p3, T.clB, T.nB_lines, few (by show 0 ≤ 10; omega), ?_⟩
  have b1 : putF "lines" (.ref tl) [] = ([("lines", .ref tl)] : List (Str × V)) := rfl
  rw [b1]
  have F4 := own (.ins CB dx [("lines", .ref tl)]) F3
  have p4 : (upd H3 p (.ins CB dx [("lines", .ref tl)])) p = some (.ins CB dx [("lines", .ref tl)]) := upd_same
  have lb4 := (upd_ne (o := .ins CB dx [("lines", .ref tl)]) nlb).trans lb3
  have ls4 := (upd_ne (o := .ins CB dx [("lines", .ref tl)]) nls).trans ls3
  have tl4 := (upd_ne (o := .ins CB dx [("lines", .ref tl)]) ntl).trans tl3
  generalize upd H3 p (.ins CB dx [("lines", .ref tl)]) = H4 at F4 p4 lb4 ls4 tl4
  -- the stops that wait
  refine ⟨nil0, fun wl h5 => ?_⟩
  have F5 := new (.lst []) F4 h5
  have z5 := none_of F4 p4 h5
  have n51 := ne_of_none lb4 h5
  have n52 := ne_of_none ls4 h5
  have p5 := (upd_ne (o := .lst []) (ne_of_none p4 h5)).trans p4
  have lb5 := (upd_ne (o := .lst []) n51).trans lb4
  have ls5 := (upd_ne (o := .lst []) n52).trans ls4
  have tl5 := (upd_ne (o := .lst []) (ne_of_none tl4 h5)).trans tl4
  have wl5 : (upd H4 wl (.lst [])) wl = some (.lst []) := upd_same
  generalize upd H4 wl (.lst []) = H5 at F5 p5 lb5 ls5 tl5 wl5
  have nwl : wl ≠ p := ne_of wl5 p5 (by intro e; cases e)
  refine ⟨_, rfl, p, CB, dx, _, rfl, p5, T.clB, T.nB_waiting, few (by show 1 ≤ 10; omega), ?_⟩
  have b2 : putF "waiting" (.ref wl) ([("lines", .ref tl)] : List (Str × V)) = ([("lines", .ref tl), ("waiting", .ref wl)] : List (Str × V)) := (pt_on (by decide +kernel)).trans (congrArg _ rfl)
  rw [b2]
  have F6 := own (.ins CB dx [("lines", .ref tl), ("waiting", .ref wl)]) F5
  have p6 : (upd H5 p (.ins CB dx [("lines", .ref tl), ("waiting", .ref wl)])) p = some (.ins CB dx [("lines", .ref tl), ("waiting", .ref wl)]) := upd_same
  have lb6 := (upd_ne (o := .ins CB dx [("lines", .ref tl), ("waiting", .ref wl)]) nlb).trans lb5
  have ls6 := (upd_ne (o := .ins CB dx [("lines", .ref tl), ("waiting", .ref wl)]) nls).trans ls5
  have tl6 := (upd_ne (o := .ins CB dx [("lines", .ref tl), ("waiting", .ref wl)]) ntl).trans tl5
  have wl6 := (upd_ne (o := .ins CB dx [("lines", .ref tl), ("waiting", .ref wl)]) nwl).trans wl5
  generalize upd H5 p (.ins CB dx [("lines", .ref tl), ("waiting", .ref wl)]) = H6 at F6 p6 lb6 ls6 tl6 wl6
  -- the orders by their numbers
  refine fun kd h7 => ?_
  have F7 := new (.dK []) F6 h7
  have p7 := (upd_ne (o := .dK []) (ne_of_none p6 h7)).trans p6
  have lb7 := (upd_ne (o := .dK []) (ne_of_none lb6 h7)).trans lb6
  have ls7 := (upd_ne (o := .dK []) (ne_of_none ls6 h7)).trans ls6
  have tl7 := (upd_ne (o := .dK []) (ne_of_none tl6 h7)).trans tl6
  have wl7 := (upd_ne (o := .dK []) (ne_of_none wl6 h7)).trans wl6
  have kd7 : (upd H6 kd (.dK [])) kd = some (.dK []) := upd_same
  generalize upd H6 kd (.dK []) = H7 at F7 p7 lb7 ls7 tl7 wl7 kd7
  have nkd : kd ≠ p := ne_of kd7 p7 (by intro e; cases e)
  refine ⟨_, rfl, p, CB, dx, _, rfl, p7, T.clB, T.nB_known, few (by show 2 ≤ 10; omega), ?_⟩
  have b3 : putF "known" (.ref kd) ([("lines", .ref tl), ("waiting", .ref wl)] : List (Str × V)) = ([("lines", .ref tl), ("waiting", .ref wl), ("known", .ref kd)] : List (Str × V)) := (pt_on (by decide +kernel)).trans (congrArg _ ((pt_on (by decide +kernel)).trans (congrArg _ rfl)))
  rw [b3]
  refine ⟨_, rfl, p, CB, dx, _, rfl, upd_same, T.clB, T.nB_latest, few (by show 3 ≤ 10; omega), ?_⟩
  have b4 : putF "latest" (.int 0) ([("lines", .ref tl), ("waiting", .ref wl), ("known", .ref kd)] : List (Str × V)) = ([("lines", .ref tl), ("waiting", .ref wl), ("known", .ref kd), ("latest", .int 0)] : List (Str × V)) := (pt_on (by decide +kernel)).trans (congrArg _ ((pt_on (by decide +kernel)).trans (congrArg _ ((pt_on (by decide +kernel)).trans (congrArg _ rfl)))))
  rw [b4, upd_upd]
  refine ⟨_, rfl, p, CB, dx, _, rfl, upd_same, T.clB, T.nB_in_auction, few (by show 4 ≤ 10; omega), ?_⟩
  have b5 : putF "in_auction" (.bl false) ([("lines", .ref tl), ("waiting", .ref wl), ("known", .ref kd), ("latest", .int 0)] : List (Str × V)) = ([("lines", .ref tl), ("waiting", .ref wl), ("known", .ref kd), ("latest", .int 0), ("in_auction", .bl false)] : List (Str × V)) := (pt_on (by decide +kernel)).trans (congrArg _ ((pt_on (by decide +kernel)).trans (congrArg _ ((pt_on (by decide +kernel)).trans (congrArg _ ((pt_on (by decide +kernel)).trans (congrArg _ rfl)))))))
  rw [b5, upd_upd]
  have F8 := own (.ins CB dx [("lines", .ref tl), ("waiting", .ref wl), ("known", .ref kd), ("latest", .int 0), ("in_auction", .bl false)]) F7
  have p8 : (upd H7 p (.ins CB dx [("lines", .ref tl), ("waiting", .ref wl), ("known", .ref kd), ("latest", .int 0), ("in_auction", .bl false)])) p = some (.ins CB dx [("lines", .ref tl), ("waiting", .ref wl), ("known", .ref kd), ("latest", .int 0), ("in_auction", .bl false)]) := upd_same
  have lb8 := (upd_ne (o := .ins CB dx [("lines", .ref tl), ("waiting", .ref wl), ("known", .ref kd), ("latest", .int 0), ("in_auction", .bl false)]) nlb).trans lb7
  have ls8 := (upd_ne (o := .ins CB dx [("lines", .ref tl), ("waiting", .ref wl), ("known", .ref kd), ("latest", .int 0), ("in_auction", .bl false)]) nls).trans ls7
  have tl8 := (upd_ne (o := .ins CB dx [("lines", .ref tl), ("waiting", .ref wl), ("known", .ref kd), ("latest", .int 0), ("in_auction", .bl false)]) ntl).trans tl7
  have wl8 := (upd_ne (o := .ins CB dx [("lines", .ref tl), ("waiting", .ref wl), ("known", .ref kd), ("latest", .int 0), ("in_auction", .bl false)]) nwl).trans wl7
  have kd8 := (upd_ne (o := .ins CB dx [("lines", .ref tl), ("waiting", .ref wl), ("known", .ref kd), ("latest", .int 0), ("in_auction", .bl false)]) nkd).trans kd7
  generalize upd H7 p (.ins CB dx [("lines", .ref tl), ("waiting", .ref wl), ("known", .ref kd), ("latest", .int 0), ("in_auction", .bl false)]) = H8 at F8 p8 lb8 ls8 tl8 wl8 kd8
  -- the events
  refine ⟨nil0, fun ev h9 => ?_⟩
  have F9 := new (.lst []) F8 h9
  have z9 := none_of F8 p8 h9
  have n91 := ne_of_none lb8 h9
  have n92 := ne_of_none ls8 h9
  have n93 := ne_of_none wl8 h9
  have p9 := (upd_ne (o := .lst []) (ne_of_none p8 h9)).trans p8
  have lb9 := (upd_ne (o := .lst []) n91).trans lb8
  have ls9 := (upd_ne (o := .lst []) n92).trans ls8
  have tl9 := (upd_ne (o := .lst []) (ne_of_none tl8 h9)).trans tl8
  have wl9 := (upd_ne (o := .lst []) n93).trans wl8
  have kd9 := (upd_ne (o := .lst []) (ne_of_none kd8 h9)).trans kd8
  have ev9 : (upd H8 ev (.lst [])) ev = some (.lst []) := upd_same
  generalize upd H8 ev (.lst []) = H9 at F9 p9 lb9 ls9 tl9 wl9 kd9 ev9
  have nev : ev ≠ p := ne_of ev9 p9 (by intro e; cases e)
  refine ⟨_, rfl, p, CB, dx, _, rfl, p9, T.clB, T.nB_events, few (by show 5 ≤ 10; omega), ?_⟩
  have b6 : putF "events" (.ref ev) ([("lines", .ref tl), ("waiting", .ref wl), ("known", .ref kd), ("latest", .int 0), ("in_auction", .bl false)] : List (Str × V)) = bF ⟨p, tl, lb, ls, wl, kd, ev⟩ 0 false := (pt_on (by decide +kernel)).trans (congrArg _ ((pt_on (by decide +kernel)).trans (congrArg _ ((pt_on (by decide +kernel)).trans (congrArg _ ((pt_on (by decide +kernel)).trans (congrArg _ ((pt_on (by decide +kernel)).trans (congrArg _ rfl)))))))))
  rw [b6]
  refine kk ⟨p, tl, lb, ls, wl, kd, ev⟩ _ rfl ⟨dx, upd_same⟩ ((upd_ne ntl).trans tl9) ((upd_ne nlb).trans lb9) ((upd_ne nls).trans ls9) ((upd_ne nwl).trans wl9) ((upd_ne nkd).trans kd9) ((upd_ne nev).trans ev9) ⟨n21, n51, n52, n91.symm, n92.symm, n93.symm⟩ (fun b hb => ?_) (own _ F9)
  simp only [List.mem_cons, List.not_mem_nil, or_false] at hb
  rcases hb with rfl | rfl | rfl | rfl
  · exact h1
  · exact z2
  · exact z5
  · exact z9
end
end SB
namespace SB
open PySem PySem.Spec PyProof.Rows L2
section
variable {P : Program} {w : World} {K : PySem.W.Frag} {mg : Str → Option Value} {base : Heap} {CO CB : Addr}
def spAnswers (K : PySem.W.Frag) (CO CB : Addr) : Sp := fun vs H Q _ => ∃ (C : Addr) (raw : List (List (List Int))), vs = [.ref C] ∧ SqL K H C ((PyFlat.put raw).map V.int) ∧ (∀ b o, H b = some o → ∃ x u, o = .frz x u) ∧ (∀ c ∈ raw, Form c) ∧ (soFar raw).length ≤ 10000000 ∧
  ∀ H' p, H' p = some (.lst ((soFar raw).map V.int)) → Q (.ref p) H'
theorem ln_answers {vs : List V} {H : Hp} {Q : VK} {E : XK} (h : spAnswers K CO CB vs H Q E) : vs.length = 1 := by
  obtain ⟨C, raw, rfl, _⟩ := h
  rfl
theorem sq_fr {H H' : Hp} {a : Addr} {xs : List V} (h : SqL K H a xs) (e : ∀ o, H a = some o → H' a = some o) : SqL K H' a xs :=
  h.elim (fun h => .inl (h.elim (fun h => .inl (e _ h)) fun ⟨o, h⟩ => .inr ⟨o, e _ h⟩)) fun h => .inr h
theorem foot_new {L : Lay} {H0 H' : Hp} {m : M} {es : List Int} (B : BkAt CO CB L H' m es) (f0 : Fr [] H0 H') (fz : ∀ b o, H0 b = some o → ∃ x u, o = .frz x u) : ∀ b ∈ foot L m, H0 b = none := fun b hb => by
  have key : ∀ {b : Addr} {o : HO}, H' b = some o → (∀ x u, o ≠ .frz x u) → H0 b = none := fun {b o} e no => by
    cases e2 : H0 b with
    | none => rfl
    | some u =>
      have e3 := fr_nil f0 e2
      rw [e] at e3
      cases e3
      obtain ⟨x, y, e4⟩ := fz b o e2
      exact absurd e4 (no x y)
  unfold foot at hb
  rcases List.mem_append.mp hb with h | h
  · obtain ⟨dx, ob⟩ := B.ob
    obtain ⟨kvs, kd, _⟩ := B.kd
    simp only [List.mem_cons, List.not_mem_nil, or_false] at h
    rcases h with rfl | rfl | rfl | rfl | rfl | rfl
    · exact key ob fun _ _ h => nomatch h
    · exact key B.lb fun _ _ h => nomatch h
    · exact key B.ls fun _ _ h => nomatch h
    · exact key B.wl fun _ _ h => nomatch h
    · exact key kd fun _ _ h => nomatch h
    · exact key B.ev fun _ _ h => nomatch h
  · obtain ⟨r, hr, rfl⟩ := List.mem_map.mp h
    obtain ⟨dr, er⟩ := B.od r hr
    exact key er fun _ _ h => nomatch h
theorem form_how {c : List (List Int)} (h : Form c) : ∃ code nums, c = [code :: nums] ∧ atI [V.int 0, V.int 7, V.int 1, V.int 3, V.int 1, V.int 0] code = some (.int (nums.length : Nat)) := by
  cases h with
  | order n w s k p q t h => exact ⟨1, [n, w, s, k, p, q, t], rfl, atI_nat (j := 1) rfl⟩
  | cancel z => exact ⟨2, [z], rfl, atI_nat (j := 2) rfl⟩
  | change z p n => exact ⟨3, [z, p, n], rfl, atI_nat (j := 3) rfl⟩
  | auction on => exact ⟨4, [on], rfl, atI_nat (j := 4) rfl⟩
  | look => exact ⟨5, [], rfl, atI_nat (j := 5) rfl⟩
theorem cut_mid (A B D : List V) (x : V) {lo hi : Int} (h1 : lo = (A.length : Nat) + 1) (h2 : hi = (A.length : Nat) + 1 + (B.length : Nat)) : cutV (A ++ x :: (B ++ D)) (some lo) (some hi) = B := by
  have e1 : lo = ((A.length + 1 : Nat) : Int) := by omega
  have e2 : hi = ((A.length + 1 + B.length : Nat) : Int) := by omega
  rw [e1, e2]
  unfold cutV
  rw [HT.sIx_nat, HT.sIx_nat]
  have hl : (A ++ x :: (B ++ D)).length = A.length + 1 + B.length + D.length := by
    rw [List.length_append, List.length_cons, List.length_append]
    omega
  rw [hl, Nat.min_eq_left (by omega), Nat.min_eq_left (by omega), show A.length + 1 + B.length - (A.length + 1) = B.length by omega]
  have e3 : A ++ x :: (B ++ D) = (A ++ [x]) ++ (B ++ D) := by rw [List.append_assoc]; rfl
  have e4 : A.length + 1 = (A ++ [x]).length := by rw [List.length_append]; rfl
  rw [e3, e4, List.drop_left, List.take_left]
theorem st3 {x0 x1 x2 x4 x5 x6 : Option V} {a b : Int} (e : a = b) : ([x0, x1, x2, some (.int a), x4, x5, x6] : L2.St) = [x0, x1, x2, some (.int b), x4, x5, x6] := by
  subst e
  rfl
def wAns (C : Addr) (raw : List (List (List Int))) (H0 : Hp) (CO CB : Addr) (n : Nat) (σ : L2.St) (H' : Hp) : Prop := ∃ (L : Lay) (m : M) (d e : List (List (List Int))) (t : Addr) (v4 v5 v6 : Option V), σ = [some (.ref C), some (.ref L.bk), some (.ref t), some (.int ((PyFlat.put d).length : Nat)), v4, v5, v6] ∧
  raw = d ++ e ∧ n = e.length ∧ BkAt CO CB L H' m [] ∧ Fit m (after Sd17.fresh d) ∧ H' t = some (.lst ((soFar d).map V.int)) ∧ Lo L t ∧ Fr [] H0 H'
theorem ok_answers {f : Addr} {fd : FuncData} (F : Fun K "answers" "answers" s_answers f fd) (T : Txt K mg CO CB) {f_Book_init : Addr} {d_Book_init : FuncData} (G_Book_init : Gk P w K mg base 1 CB f_Book_init d_Book_init ["self"] (spBookInit CB)) {f_answer_call : Addr} {d_answer_call : FuncData} (G_answer_call : Gd P w K mg base 10 "answer_call" f_answer_call d_answer_call ["book", "call", "numbers"] (spAnswerCall K CO CB)) : FnOk P w K mg base CX0 11 f fd ["calls"] (spAnswers K CO CB) := by
  refine F.ok sc_answers (fun vs H Q E h => ln_answers h) (fun cdv A outer s H vs Q E hr h => ?_)
  have hu := hu_of hr
  refine ⟨_, (pss_cons (ps_set (i := 1) sc_answers.nd rfl (Or.inl rfl) (pe_make0 G_Book_init.mm G_Book_init.ok (hr.mono (by decide)) rfl T.gB G_Book_init.b .nil pass0))
    (pss_cons (ps_set (i := 2) sc_answers.nd rfl (Or.inl rfl) (pe_lst pa_nil))
    (pss_cons (ps_set (i := 3) sc_answers.nd rfl (Or.inl rfl) pe_int)
    (pss_cons (ps_while PassesOwn.never (pt_cmpR op_lt (pv 3) (pe_callB call_len_seq (by rfl) T.b_len PySem.boot_len (pa_cons (pv 0) pa_nil)) (nomark _))
      (pss_cons (ps_set (i := 4) sc_answers.nd rfl (Or.inl rfl) (pe_ix ix_list (pv 0) (pv 3) (fun _ _ => rfl)))
        (pss_cons (ps_set (i := 5) sc_answers.nd rfl (Or.inl rfl) (pe_op op_add (pe_op op_add (pv 3) pe_int) (pe_ix ix_tup (pg_hmn rfl T.hmn) (pv 4) (fun _ _ => rfl))))
        (pss_cons (ps_set (i := 6) sc_answers.nd rfl (Or.inl rfl) (pe_call G_answer_call.ok (hr.mono (by decide)) rfl G_answer_call.mg G_answer_call.kp G_answer_call.b .nil pass0 (pa_cons (pv 1) (pa_cons (pv 4) (pa_cons (pe_slice sl_list (pv 0) (po_some (pe_op op_add (pv 3) pe_int)) (po_some (pv 5))) pa_nil)))))
        (pss_cons (ps_expr (pe_bm PySem.F.plainAttrs_list PySem.F.slot_list_append PySem.F.type_list_append mt_append (pv 2) (pa_cons (pe_callB call_len_seq (by rfl) T.b_len PySem.boot_len (pa_cons (pv 6) pa_nil)) pa_nil)))
        (pss_cons (ps_expr (pe_bm PySem.F.plainAttrs_list PySem.F.slot_list_extend PySem.F.type_list_extend mt_extend (pv 2) (pa_cons (pv 6) pa_nil)))
        (pss_one (ps_set (i := 3) sc_answers.nd rfl (Or.inl rfl) (pv 5)))))))))
    (pss_one (ps_ret (pv 2))))))), ?_⟩

  obtain ⟨C, raw, rfl, hC, fz, fm, hz, kk⟩ := h
  rw [show L2.start ["calls", "book", "told", "place", "call", "behind", "answer"] [V.ref C] = [some (.ref C), none, none, none, none, none, none] from rfl]
  intro x dx hx hdx ne
  refine ⟨x, dx, rfl, upd_same, fun L H1 eb hb htl hlb hls hwl hkd hev hne hnew f => ⟨rfl, ?_⟩⟩
  subst eb
  have fa : Fr [] H (upd (upd H dx (.own L.bk)) L.bk (.ins CB dx [])) := (fr_new hdx).trans (fr_new ((upd_ne ne.symm).trans hx)) (fun b hb => nomatch hb) fun b hb => nomatch hb
  have f1 : Fr [] H H1 := fa.trans f (fun b hb => nomatch hb) fun b hb => .inr (by rw [List.mem_singleton.mp hb]; exact hx)
  have B1 : BkAt CO CB L H1 ⟨[], [], [], 0, false⟩ [] := ⟨hb, htl, hlb, hls, hwl, ⟨[], hkd, ⟨fun r hr => (nomatch hr), fun z v h => (nomatch h), rfl, List.nodup_nil⟩⟩, hev, fun r hr => (nomatch hr), hne, ⟨fun r hr => (nomatch hr), fun r hr => (nomatch hr), fun r hr => (nomatch hr), List.Pairwise.nil, List.Pairwise.nil, List.nodup_nil, List.nodup_nil⟩⟩
  refine ⟨bigL (Nat.zero_le _), fun t ht => ?_⟩
  have B2 := B1.keep0 (fr_new (o := .lst []) ht)
  have f2 : Fr [] H (upd H1 t (.lst [])) := f1.trans (fr_new ht) (fun b hb => nomatch hb) fun b hb => nomatch hb
  have et : (upd H1 t (.lst [])) t = some (.lst ((soFar []).map V.int)) := upd_same
  have lo := B1.newLo ht
  generalize upd H1 t (.lst []) = H2 at B2 f2 et
  refine ⟨wAns C raw H CO CB, ⟨raw.length, L, _, [], raw, t, none, none, none, rfl, rfl, rfl, B2, fit_fresh, et, lo, f2⟩, ?_⟩
  rintro n σ H3 ⟨L3, m, d, e, t3, v4, v5, v6, rfl, er, en, B, F, et, lo, f0⟩
  have hC3 : SqL K H3 C ((PyFlat.put raw).map V.int) := sq_fr hC fun o e => fr_nil f0 e
  refine ⟨_, rfl, _, rfl, C, _, rfl, .inl hC3, _, _, rfl, rfl, _, rfl, ?_⟩
  cases e with
  | nil =>
    rw [List.append_nil] at er
    subst er
    refine iteDF (by rw [List.length_map]; omega) ⟨_, rfl, kk H3 t3 et⟩
  | cons c e =>
    have hc := fm c (by rw [er]; exact List.mem_append.mpr (.inr (List.mem_cons_self ..)))
    obtain ⟨code, nums, rfl, how⟩ := form_how hc
    have ep : PyFlat.put raw = PyFlat.put d ++ code :: (nums ++ PyFlat.put e) := by
      rw [er, put_append]
      show PyFlat.put d ++ ((code :: nums ++ []) ++ PyFlat.put e) = _
      rw [List.append_nil]
      rfl
    have e1 : PyFlat.put (d ++ [code :: nums] :: []) = PyFlat.put d ++ code :: nums := by
      rw [put_append]
      show PyFlat.put d ++ ((code :: nums ++ []) ++ []) = _
      rw [List.append_nil, List.append_nil]
    have hz1 : (soFar (d ++ [[code :: nums]])).length ≤ 10000000 := by
      have := soFar_le (d ++ [[code :: nums]]) e
      rw [List.append_assoc] at this
      rw [er] at hz
      exact Nat.le_trans this hz
    have es := soFar_snoc d [code :: nums]
    have ef := after_snoc Sd17.fresh d [code :: nums]
    refine iteDT (by rw [List.length_map, ep, List.length_append, List.length_cons]; omega) ⟨_, fun _ _ n => n, ?_⟩
    have hat : atI ((PyFlat.put raw).map V.int) (((PyFlat.put d).length : Nat) : Int) = some (.int code) := by
      refine atI_nat ?_
      rw [List.getElem?_map, ep, List.getElem?_append_right (Nat.le_refl _), Nat.sub_self]
      rfl
    have ecut : cutV ((PyFlat.put raw).map V.int) (some ((((PyFlat.put d).length : Nat) : Int) + 1)) (some ((((PyFlat.put d).length : Nat) : Int) + 1 + ((nums.length : Nat) : Int))) = nums.map V.int := by
      rw [ep, List.map_append, List.map_cons, List.map_append]
      exact cut_mid _ _ _ _ (by rw [List.length_map]) (by rw [List.length_map, List.length_map])
    refine ⟨_, rfl, _, rfl, C, _, _, _, rfl, rfl, hC3, hat, _, rfl, _, _, rfl, rfl, fun ah hh => ⟨_, rfl, ah, _, _, _, rfl, rfl, hh _, how, _, _, rfl, rfl, ?_⟩⟩
    refine ⟨_, rfl, _, rfl, _, rfl, _, rfl, _, _, rfl, rfl, _, rfl, _, rfl, _, rfl, C, _, rfl, hC3, fun p hp => ?_⟩
    show spAnswerCall K CO CB [.ref L3.bk, .int code, .ref p] (upd H3 p (.lst (cutV ((PyFlat.put raw).map V.int) (some ((((PyFlat.put d).length : Nat) : Int) + 1)) (some ((((PyFlat.put d).length : Nat) : Int) + 1 + ((nums.length : Nat) : Int)))))) _ E0
    rw [ecut]
    have g1 : Fr [] H3 (upd H3 p (.lst (nums.map V.int))) := fr_new hp
    have ep1 : (upd H3 p (.lst (nums.map V.int))) p = some (.lst (nums.map V.int)) := upd_same
    generalize upd H3 p (.lst (nums.map V.int)) = H4 at g1 ep1
    have B4 := B.keep0 g1
    have et4 := fr_nil g1 et
    have f4 : Fr [] H H4 := f0.trans g1 (fun b hb => nomatch hb) fun b hb => nomatch hb
    have tf := (B4.apartL et4 lo).2.2.2
    have hz2 : (soFar d).length + 1 + (Sd17Neutral.step (after Sd17.fresh d) [code :: nums]).2.length ≤ 10000000 := by
      rw [es, List.length_append, List.length_cons] at hz1
      omega
    refine ⟨L3, m, _, p, code, nums, rfl, hc, ep1, B4, F, by omega, fun m' F' H5 q ev' nq nev ne2 B5 e5 f5 => ?_⟩
    have et5 : H5 t3 = some (.lst ((soFar d).map V.int)) := f5 t3 _ et4 tf
    have lo5 : Lo { L3 with ev := ev' } t3 := ⟨lo.lb, lo.ls, lo.wl, nev t3 _ et4 tf⟩
    have tq : t3 ≠ q := nq t3 _ et4 tf
    have f6 : Fr [] H H5 := f4.trans f5 (fun b hb => nomatch hb) fun b hb => .inr (foot_new B4 f4 fz b hb)
    have tn : H t3 = none := by
      cases e7 : H t3 with
      | none => rfl
      | some u =>
        have e8 := fr_nil f0 e7
        rw [et] at e8
        cases e8
        obtain ⟨_, _, e9⟩ := fz _ _ e7
        cases e9
    -- told.append(len(answer))
    refine ⟨_, rfl, tyL et5, _, rfl, q, _, rfl, .inl (SqL.of e5), t3, _, _, rfl, rfl, et5, by rw [List.length_map]; exact big (by omega), ?_⟩
    have B6 := B5.keepL et5 lo5 (fr_upd (a := t3) (o := .lst ((soFar d).map V.int ++ [V.int (((Sd17Neutral.step (after Sd17.fresh d) [code :: nums]).2.map V.int).length : Nat)])))
    have f7 : Fr [] H (upd H5 t3 (.lst ((soFar d).map V.int ++ [V.int (((Sd17Neutral.step (after Sd17.fresh d) [code :: nums]).2.map V.int).length : Nat)]))) := f6.trans (fr_upd (a := t3)) (fun b hb => nomatch hb) fun b hb => .inr (by rw [List.mem_singleton.mp hb]; exact tn)
    have et6 : (upd H5 t3 (.lst ((soFar d).map V.int ++ [V.int (((Sd17Neutral.step (after Sd17.fresh d) [code :: nums]).2.map V.int).length : Nat)]))) t3 = some (.lst ((soFar d).map V.int ++ [V.int (((Sd17Neutral.step (after Sd17.fresh d) [code :: nums]).2.map V.int).length : Nat)])) := upd_same
    have e6 := (upd_ne (o := .lst ((soFar d).map V.int ++ [V.int (((Sd17Neutral.step (after Sd17.fresh d) [code :: nums]).2.map V.int).length : Nat)])) tq.symm).trans e5
    generalize upd H5 t3 (.lst ((soFar d).map V.int ++ [V.int (((Sd17Neutral.step (after Sd17.fresh d) [code :: nums]).2.map V.int).length : Nat)])) = H6 at B6 f7 et6 e6
    -- told.extend(answer)
    refine ⟨_, rfl, tyL et6, _, rfl, t3, q, _, _, rfl, rfl, et6, e6, ?_, ?_⟩
    · rw [List.length_append, List.length_map, List.length_map, List.length_cons, List.length_nil]
      exact bigL (by omega)
    · refine ⟨_, rfl, e.length, (by rw [en]; exact Nat.lt_succ_self _), { L3 with ev := ev' }, m', d ++ [[code :: nums]], e, t3, some (.int code), some (.int ((((PyFlat.put d).length : Nat) : Int) + 1 + ((nums.length : Nat) : Int))), some (.ref q), ?_, ?_, rfl, B6.keepL et6 lo5 fr_upd, ?_, ?_, lo5, f7.trans (fr_upd (a := t3)) (fun b hb => nomatch hb) fun b hb => .inr (by rw [List.mem_singleton.mp hb]; exact tn)⟩
      · refine st3 ?_
        rw [e1, List.length_append, List.length_cons]
        show (((PyFlat.put d).length : Nat) : Int) + 1 + ((nums.length : Nat) : Int) = _
        omega
      · rw [er, List.append_assoc]
        rfl
      · rw [ef]
        exact F'
      · rw [upd_same, es, List.map_append, List.length_map, List.append_assoc]
        rfl
end
end SB
namespace SB
open PySem PySem.Spec PyProof.Rows L2
theorem all_mk {P : Program} {w : World} {K : PySem.W.Frag} {h : Heap} {mg : Str → Option Value} {fa CO CB : Addr} (X : K.In h) (G : h.Ns mainGlobals mg) (hfa : mg "answers" = some (.ref fa))
    {f_Order_init : Addr} {od_Order_init an_Order_init : Option Addr} {sl_Order_init : Array (Option Value)} {oc_Order_init kV_Order_init dc_Order_init pm_Order_init cd_Order_init ct_Order_init : Value}
    {f_has_price : Addr} {od_has_price an_has_price : Option Addr} {sl_has_price : Array (Option Value)} {oc_has_price kV_has_price dc_has_price pm_has_price cd_has_price ct_has_price : Value}
    {f_is_stop : Addr} {od_is_stop an_is_stop : Option Addr} {sl_is_stop : Array (Option Value)} {oc_is_stop kV_is_stop dc_is_stop pm_is_stop cd_is_stop ct_is_stop : Value}
    {f_is_in_range : Addr} {od_is_in_range an_is_in_range : Option Addr} {sl_is_in_range : Array (Option Value)} {oc_is_in_range kV_is_in_range dc_is_in_range pm_is_in_range cd_is_in_range ct_is_in_range : Value}
    {f_is_as_told : Addr} {od_is_as_told an_is_as_told : Option Addr} {sl_is_as_told : Array (Option Value)} {oc_is_as_told kV_is_as_told dc_is_as_told pm_is_as_told cd_is_as_told ct_is_as_told : Value}
    {f_accepts : Addr} {od_accepts an_accepts : Option Addr} {sl_accepts : Array (Option Value)} {oc_accepts kV_accepts dc_accepts pm_accepts cd_accepts ct_accepts : Value}
    {f_is_triggered : Addr} {od_is_triggered an_is_triggered : Option Addr} {sl_is_triggered : Array (Option Value)} {oc_is_triggered kV_is_triggered dc_is_triggered pm_is_triggered cd_is_triggered ct_is_triggered : Value}
    {f_is_better : Addr} {od_is_better an_is_better : Option Addr} {sl_is_better : Array (Option Value)} {oc_is_better kV_is_better dc_is_better pm_is_better cd_is_better ct_is_better : Value}
    {f_place_in : Addr} {od_place_in an_place_in : Option Addr} {sl_place_in : Array (Option Value)} {oc_place_in kV_place_in dc_place_in pm_place_in cd_place_in ct_place_in : Value}
    {f_auction_price : Addr} {od_auction_price an_auction_price : Option Addr} {sl_auction_price : Array (Option Value)} {oc_auction_price kV_auction_price dc_auction_price pm_auction_price cd_auction_price ct_auction_price : Value}
    {f_Book_init : Addr} {od_Book_init an_Book_init : Option Addr} {sl_Book_init : Array (Option Value)} {oc_Book_init kV_Book_init dc_Book_init pm_Book_init cd_Book_init ct_Book_init : Value}
    {f_Book_take_order : Addr} {od_Book_take_order an_Book_take_order : Option Addr} {sl_Book_take_order : Array (Option Value)} {oc_Book_take_order kV_Book_take_order dc_Book_take_order pm_Book_take_order cd_Book_take_order ct_Book_take_order : Value}
    {f_Book_cancel : Addr} {od_Book_cancel an_Book_cancel : Option Addr} {sl_Book_cancel : Array (Option Value)} {oc_Book_cancel kV_Book_cancel dc_Book_cancel pm_Book_cancel cd_Book_cancel ct_Book_cancel : Value}
    {f_Book_change : Addr} {od_Book_change an_Book_change : Option Addr} {sl_Book_change : Array (Option Value)} {oc_Book_change kV_Book_change dc_Book_change pm_Book_change cd_Book_change ct_Book_change : Value}
    {f_Book_auction : Addr} {od_Book_auction an_Book_auction : Option Addr} {sl_Book_auction : Array (Option Value)} {oc_Book_auction kV_Book_auction dc_Book_auction pm_Book_auction cd_Book_auction ct_Book_auction : Value}
    {f_Book_look : Addr} {od_Book_look an_Book_look : Option Addr} {sl_Book_look : Array (Option Value)} {oc_Book_look kV_Book_look dc_Book_look pm_Book_look cd_Book_look ct_Book_look : Value}
    {f_Book_tell : Addr} {od_Book_tell an_Book_tell : Option Addr} {sl_Book_tell : Array (Option Value)} {oc_Book_tell kV_Book_tell dc_Book_tell pm_Book_tell cd_Book_tell ct_Book_tell : Value}
    {f_Book_answer : Addr} {od_Book_answer an_Book_answer : Option Addr} {sl_Book_answer : Array (Option Value)} {oc_Book_answer kV_Book_answer dc_Book_answer pm_Book_answer cd_Book_answer ct_Book_answer : Value}
    {f_Book_end : Addr} {od_Book_end an_Book_end : Option Addr} {sl_Book_end : Array (Option Value)} {oc_Book_end kV_Book_end dc_Book_end pm_Book_end cd_Book_end ct_Book_end : Value}
    {f_Book_rest : Addr} {od_Book_rest an_Book_rest : Option Addr} {sl_Book_rest : Array (Option Value)} {oc_Book_rest kV_Book_rest dc_Book_rest pm_Book_rest cd_Book_rest ct_Book_rest : Value}
    {f_Book_take_out : Addr} {od_Book_take_out an_Book_take_out : Option Addr} {sl_Book_take_out : Array (Option Value)} {oc_Book_take_out kV_Book_take_out dc_Book_take_out pm_Book_take_out cd_Book_take_out ct_Book_take_out : Value}
    {f_Book_take_out_if_empty : Addr} {od_Book_take_out_if_empty an_Book_take_out_if_empty : Option Addr} {sl_Book_take_out_if_empty : Array (Option Value)} {oc_Book_take_out_if_empty kV_Book_take_out_if_empty dc_Book_take_out_if_empty pm_Book_take_out_if_empty cd_Book_take_out_if_empty ct_Book_take_out_if_empty : Value}
    {f_Book_wait : Addr} {od_Book_wait an_Book_wait : Option Addr} {sl_Book_wait : Array (Option Value)} {oc_Book_wait kV_Book_wait dc_Book_wait pm_Book_wait cd_Book_wait ct_Book_wait : Value}
    {f_Book_arrive : Addr} {od_Book_arrive an_Book_arrive : Option Addr} {sl_Book_arrive : Array (Option Value)} {oc_Book_arrive kV_Book_arrive dc_Book_arrive pm_Book_arrive cd_Book_arrive ct_Book_arrive : Value}
    {f_Book_come : Addr} {od_Book_come an_Book_come : Option Addr} {sl_Book_come : Array (Option Value)} {oc_Book_come kV_Book_come dc_Book_come pm_Book_come cd_Book_come ct_Book_come : Value}
    {f_Book_other_line : Addr} {od_Book_other_line an_Book_other_line : Option Addr} {sl_Book_other_line : Array (Option Value)} {oc_Book_other_line kV_Book_other_line dc_Book_other_line pm_Book_other_line cd_Book_other_line ct_Book_other_line : Value}
    {f_Book_can_trade : Addr} {od_Book_can_trade an_Book_can_trade : Option Addr} {sl_Book_can_trade : Array (Option Value)} {oc_Book_can_trade kV_Book_can_trade dc_Book_can_trade pm_Book_can_trade cd_Book_can_trade ct_Book_can_trade : Value}
    {f_Book_offered_by_others : Addr} {od_Book_offered_by_others an_Book_offered_by_others : Option Addr} {sl_Book_offered_by_others : Array (Option Value)} {oc_Book_offered_by_others kV_Book_offered_by_others dc_Book_offered_by_others pm_Book_offered_by_others cd_Book_offered_by_others ct_Book_offered_by_others : Value}
    {f_Book_trade : Addr} {od_Book_trade an_Book_trade : Option Addr} {sl_Book_trade : Array (Option Value)} {oc_Book_trade kV_Book_trade dc_Book_trade pm_Book_trade cd_Book_trade ct_Book_trade : Value}
    {f_Book_exchange : Addr} {od_Book_exchange an_Book_exchange : Option Addr} {sl_Book_exchange : Array (Option Value)} {oc_Book_exchange kV_Book_exchange dc_Book_exchange pm_Book_exchange cd_Book_exchange ct_Book_exchange : Value}
    {f_Book_settle : Addr} {od_Book_settle an_Book_settle : Option Addr} {sl_Book_settle : Array (Option Value)} {oc_Book_settle kV_Book_settle dc_Book_settle pm_Book_settle cd_Book_settle ct_Book_settle : Value}
    {f_Book_trigger_stops : Addr} {od_Book_trigger_stops an_Book_trigger_stops : Option Addr} {sl_Book_trigger_stops : Array (Option Value)} {oc_Book_trigger_stops kV_Book_trigger_stops dc_Book_trigger_stops pm_Book_trigger_stops cd_Book_trigger_stops ct_Book_trigger_stops : Value}
    {f_Book_take_triggered : Addr} {od_Book_take_triggered an_Book_take_triggered : Option Addr} {sl_Book_take_triggered : Array (Option Value)} {oc_Book_take_triggered kV_Book_take_triggered dc_Book_take_triggered pm_Book_take_triggered cd_Book_take_triggered ct_Book_take_triggered : Value}
    {f_Book_price_of_auction : Addr} {od_Book_price_of_auction an_Book_price_of_auction : Option Addr} {sl_Book_price_of_auction : Array (Option Value)} {oc_Book_price_of_auction kV_Book_price_of_auction dc_Book_price_of_auction pm_Book_price_of_auction cd_Book_price_of_auction ct_Book_price_of_auction : Value}
    {f_Book_trade_auction : Addr} {od_Book_trade_auction an_Book_trade_auction : Option Addr} {sl_Book_trade_auction : Array (Option Value)} {oc_Book_trade_auction kV_Book_trade_auction dc_Book_trade_auction pm_Book_trade_auction cd_Book_trade_auction ct_Book_trade_auction : Value}
    {f_Book_both_accept : Addr} {od_Book_both_accept an_Book_both_accept : Option Addr} {sl_Book_both_accept : Array (Option Value)} {oc_Book_both_accept kV_Book_both_accept dc_Book_both_accept pm_Book_both_accept cd_Book_both_accept ct_Book_both_accept : Value}
    {f_answer_call : Addr} {od_answer_call an_answer_call : Option Addr} {sl_answer_call : Array (Option Value)} {oc_answer_call kV_answer_call dc_answer_call pm_answer_call cd_answer_call ct_answer_call : Value}
    {f_answers : Addr} {od_answers an_answers : Option Addr} {sl_answers : Array (Option Value)} {oc_answers kV_answers dc_answers pm_answers cd_answers ct_answers : Value}
    {t_ORDER : Tok} {t_CANCEL : Tok} {t_CHANGE : Tok} {t_AUCTION : Tok} {t_BUYS : Tok} {t_SELLS : Tok} {t_LIMIT : Tok} {t_MARKET : Tok} {t_ALL_AT_ONCE : Tok} {t_ONLY_TO_REST : Tok} {t_STOP : Tok} {t_STOP_WITH_LIMIT : Tok} {t_TRADED : Tok} {t_RESTS : Tok} {t_ENDED : Tok} {t_TRIGGERED : Tok} {t_NUMBERS_OF_AN_EVENT : Tok} {t_CANCELLED : Tok} {t_NOT_TRADED : Tok} {t_TOO_LITTLE : Tok} {t_WOULD_TRADE : Tok} {t_SAME_PERSON : Tok} {t_LARGEST_PERSON : Tok} {t_LARGEST : Tok} {t_MOST_ORDERS : Tok} {aH : Addr} {clH : Value} {dcH : Option Addr} {itH : Array Value} {nH : Nat} {slH : Array (Option Value)}
    (aO : PySem.W.nsIn K mainGlobals "Order" = some (some (.ref CO)))
    (aB : PySem.W.nsIn K mainGlobals "Book" = some (some (.ref CB)))
    (a_Order_init : PySem.W.findIn K (.ref CO) "__init__" = some (some (.ref f_Order_init)))
    (i_Order_init : PySem.W.isFn K (.ref f_Order_init) = true)
    (l_Order_init : K.lookup f_Order_init = some ⟨oc_Order_init, od_Order_init, .func (PySem.W.fnOf "__init__" "Order.__init__" (defArgs s_Order_init) (defBody s_Order_init) (defScope s_Order_init) .none kV_Order_init dc_Order_init pm_Order_init an_Order_init cd_Order_init ct_Order_init), sl_Order_init⟩)
    (c_Order_init : PySem.W.codeIn K cd_Order_init "Order.__init__" = true)
    (k_Order_init : PySem.W.keepIn K (.ref f_Order_init) = true)
    (a_has_price : PySem.W.nsIn K mainGlobals "has_price" = some (some (.ref f_has_price)))
    (l_has_price : K.lookup f_has_price = some ⟨oc_has_price, od_has_price, .func (PySem.W.fnOf "has_price" "has_price" (defArgs s_has_price) (defBody s_has_price) (defScope s_has_price) .none kV_has_price dc_has_price pm_has_price an_has_price cd_has_price ct_has_price), sl_has_price⟩)
    (c_has_price : PySem.W.codeIn K cd_has_price "has_price" = true)
    (k_has_price : PySem.W.keepIn K (.ref f_has_price) = true)
    (a_is_stop : PySem.W.nsIn K mainGlobals "is_stop" = some (some (.ref f_is_stop)))
    (l_is_stop : K.lookup f_is_stop = some ⟨oc_is_stop, od_is_stop, .func (PySem.W.fnOf "is_stop" "is_stop" (defArgs s_is_stop) (defBody s_is_stop) (defScope s_is_stop) .none kV_is_stop dc_is_stop pm_is_stop an_is_stop cd_is_stop ct_is_stop), sl_is_stop⟩)
    (c_is_stop : PySem.W.codeIn K cd_is_stop "is_stop" = true)
    (k_is_stop : PySem.W.keepIn K (.ref f_is_stop) = true)
    (a_is_in_range : PySem.W.nsIn K mainGlobals "is_in_range" = some (some (.ref f_is_in_range)))
    (l_is_in_range : K.lookup f_is_in_range = some ⟨oc_is_in_range, od_is_in_range, .func (PySem.W.fnOf "is_in_range" "is_in_range" (defArgs s_is_in_range) (defBody s_is_in_range) (defScope s_is_in_range) .none kV_is_in_range dc_is_in_range pm_is_in_range an_is_in_range cd_is_in_range ct_is_in_range), sl_is_in_range⟩)
    (c_is_in_range : PySem.W.codeIn K cd_is_in_range "is_in_range" = true)
    (k_is_in_range : PySem.W.keepIn K (.ref f_is_in_range) = true)
    (a_is_as_told : PySem.W.nsIn K mainGlobals "is_as_told" = some (some (.ref f_is_as_told)))
    (l_is_as_told : K.lookup f_is_as_told = some ⟨oc_is_as_told, od_is_as_told, .func (PySem.W.fnOf "is_as_told" "is_as_told" (defArgs s_is_as_told) (defBody s_is_as_told) (defScope s_is_as_told) .none kV_is_as_told dc_is_as_told pm_is_as_told an_is_as_told cd_is_as_told ct_is_as_told), sl_is_as_told⟩)
    (c_is_as_told : PySem.W.codeIn K cd_is_as_told "is_as_told" = true)
    (k_is_as_told : PySem.W.keepIn K (.ref f_is_as_told) = true)
    (a_accepts : PySem.W.nsIn K mainGlobals "accepts" = some (some (.ref f_accepts)))
    (l_accepts : K.lookup f_accepts = some ⟨oc_accepts, od_accepts, .func (PySem.W.fnOf "accepts" "accepts" (defArgs s_accepts) (defBody s_accepts) (defScope s_accepts) .none kV_accepts dc_accepts pm_accepts an_accepts cd_accepts ct_accepts), sl_accepts⟩)
    (c_accepts : PySem.W.codeIn K cd_accepts "accepts" = true)
    (k_accepts : PySem.W.keepIn K (.ref f_accepts) = true)
    (a_is_triggered : PySem.W.nsIn K mainGlobals "is_triggered" = some (some (.ref f_is_triggered)))
    (l_is_triggered : K.lookup f_is_triggered = some ⟨oc_is_triggered, od_is_triggered, .func (PySem.W.fnOf "is_triggered" "is_triggered" (defArgs s_is_triggered) (defBody s_is_triggered) (defScope s_is_triggered) .none kV_is_triggered dc_is_triggered pm_is_triggered an_is_triggered cd_is_triggered ct_is_triggered), sl_is_triggered⟩)
    (c_is_triggered : PySem.W.codeIn K cd_is_triggered "is_triggered" = true)
    (k_is_triggered : PySem.W.keepIn K (.ref f_is_triggered) = true)
    (a_is_better : PySem.W.nsIn K mainGlobals "is_better" = some (some (.ref f_is_better)))
    (l_is_better : K.lookup f_is_better = some ⟨oc_is_better, od_is_better, .func (PySem.W.fnOf "is_better" "is_better" (defArgs s_is_better) (defBody s_is_better) (defScope s_is_better) .none kV_is_better dc_is_better pm_is_better an_is_better cd_is_better ct_is_better), sl_is_better⟩)
    (c_is_better : PySem.W.codeIn K cd_is_better "is_better" = true)
    (k_is_better : PySem.W.keepIn K (.ref f_is_better) = true)
    (a_place_in : PySem.W.nsIn K mainGlobals "place_in" = some (some (.ref f_place_in)))
    (l_place_in : K.lookup f_place_in = some ⟨oc_place_in, od_place_in, .func (PySem.W.fnOf "place_in" "place_in" (defArgs s_place_in) (defBody s_place_in) (defScope s_place_in) .none kV_place_in dc_place_in pm_place_in an_place_in cd_place_in ct_place_in), sl_place_in⟩)
    (c_place_in : PySem.W.codeIn K cd_place_in "place_in" = true)
    (k_place_in : PySem.W.keepIn K (.ref f_place_in) = true)
    (a_auction_price : PySem.W.nsIn K mainGlobals "auction_price" = some (some (.ref f_auction_price)))
    (l_auction_price : K.lookup f_auction_price = some ⟨oc_auction_price, od_auction_price, .func (PySem.W.fnOf "auction_price" "auction_price" (defArgs s_auction_price) (defBody s_auction_price) (defScope s_auction_price) .none kV_auction_price dc_auction_price pm_auction_price an_auction_price cd_auction_price ct_auction_price), sl_auction_price⟩)
    (c_auction_price : PySem.W.codeIn K cd_auction_price "auction_price" = true)
    (k_auction_price : PySem.W.keepIn K (.ref f_auction_price) = true)
    (a_Book_init : PySem.W.findIn K (.ref CB) "__init__" = some (some (.ref f_Book_init)))
    (i_Book_init : PySem.W.isFn K (.ref f_Book_init) = true)
    (l_Book_init : K.lookup f_Book_init = some ⟨oc_Book_init, od_Book_init, .func (PySem.W.fnOf "__init__" "Book.__init__" (defArgs s_Book_init) (defBody s_Book_init) (defScope s_Book_init) .none kV_Book_init dc_Book_init pm_Book_init an_Book_init cd_Book_init ct_Book_init), sl_Book_init⟩)
    (c_Book_init : PySem.W.codeIn K cd_Book_init "Book.__init__" = true)
    (k_Book_init : PySem.W.keepIn K (.ref f_Book_init) = true)
    (a_Book_take_order : PySem.W.findIn K (.ref CB) "take_order" = some (some (.ref f_Book_take_order)))
    (i_Book_take_order : PySem.W.isFn K (.ref f_Book_take_order) = true)
    (l_Book_take_order : K.lookup f_Book_take_order = some ⟨oc_Book_take_order, od_Book_take_order, .func (PySem.W.fnOf "take_order" "Book.take_order" (defArgs s_Book_take_order) (defBody s_Book_take_order) (defScope s_Book_take_order) .none kV_Book_take_order dc_Book_take_order pm_Book_take_order an_Book_take_order cd_Book_take_order ct_Book_take_order), sl_Book_take_order⟩)
    (c_Book_take_order : PySem.W.codeIn K cd_Book_take_order "Book.take_order" = true)
    (k_Book_take_order : PySem.W.keepIn K (.ref f_Book_take_order) = true)
    (a_Book_cancel : PySem.W.findIn K (.ref CB) "cancel" = some (some (.ref f_Book_cancel)))
    (i_Book_cancel : PySem.W.isFn K (.ref f_Book_cancel) = true)
    (l_Book_cancel : K.lookup f_Book_cancel = some ⟨oc_Book_cancel, od_Book_cancel, .func (PySem.W.fnOf "cancel" "Book.cancel" (defArgs s_Book_cancel) (defBody s_Book_cancel) (defScope s_Book_cancel) .none kV_Book_cancel dc_Book_cancel pm_Book_cancel an_Book_cancel cd_Book_cancel ct_Book_cancel), sl_Book_cancel⟩)
    (c_Book_cancel : PySem.W.codeIn K cd_Book_cancel "Book.cancel" = true)
    (k_Book_cancel : PySem.W.keepIn K (.ref f_Book_cancel) = true)
    (a_Book_change : PySem.W.findIn K (.ref CB) "change" = some (some (.ref f_Book_change)))
    (i_Book_change : PySem.W.isFn K (.ref f_Book_change) = true)
    (l_Book_change : K.lookup f_Book_change = some ⟨oc_Book_change, od_Book_change, .func (PySem.W.fnOf "change" "Book.change" (defArgs s_Book_change) (defBody s_Book_change) (defScope s_Book_change) .none kV_Book_change dc_Book_change pm_Book_change an_Book_change cd_Book_change ct_Book_change), sl_Book_change⟩)
    (c_Book_change : PySem.W.codeIn K cd_Book_change "Book.change" = true)
    (k_Book_change : PySem.W.keepIn K (.ref f_Book_change) = true)
    (a_Book_auction : PySem.W.findIn K (.ref CB) "auction" = some (some (.ref f_Book_auction)))
    (i_Book_auction : PySem.W.isFn K (.ref f_Book_auction) = true)
    (l_Book_auction : K.lookup f_Book_auction = some ⟨oc_Book_auction, od_Book_auction, .func (PySem.W.fnOf "auction" "Book.auction" (defArgs s_Book_auction) (defBody s_Book_auction) (defScope s_Book_auction) .none kV_Book_auction dc_Book_auction pm_Book_auction an_Book_auction cd_Book_auction ct_Book_auction), sl_Book_auction⟩)
    (c_Book_auction : PySem.W.codeIn K cd_Book_auction "Book.auction" = true)
    (k_Book_auction : PySem.W.keepIn K (.ref f_Book_auction) = true)
    (a_Book_look : PySem.W.findIn K (.ref CB) "look" = some (some (.ref f_Book_look)))
    (i_Book_look : PySem.W.isFn K (.ref f_Book_look) = true)
    (l_Book_look : K.lookup f_Book_look = some ⟨oc_Book_look, od_Book_look, .func (PySem.W.fnOf "look" "Book.look" (defArgs s_Book_look) (defBody s_Book_look) (defScope s_Book_look) .none kV_Book_look dc_Book_look pm_Book_look an_Book_look cd_Book_look ct_Book_look), sl_Book_look⟩)
    (c_Book_look : PySem.W.codeIn K cd_Book_look "Book.look" = true)
    (k_Book_look : PySem.W.keepIn K (.ref f_Book_look) = true)
    (a_Book_tell : PySem.W.findIn K (.ref CB) "tell" = some (some (.ref f_Book_tell)))
    (i_Book_tell : PySem.W.isFn K (.ref f_Book_tell) = true)
    (l_Book_tell : K.lookup f_Book_tell = some ⟨oc_Book_tell, od_Book_tell, .func (PySem.W.fnOf "tell" "Book.tell" (defArgs s_Book_tell) (defBody s_Book_tell) (defScope s_Book_tell) .none kV_Book_tell dc_Book_tell pm_Book_tell an_Book_tell cd_Book_tell ct_Book_tell), sl_Book_tell⟩)
    (c_Book_tell : PySem.W.codeIn K cd_Book_tell "Book.tell" = true)
    (k_Book_tell : PySem.W.keepIn K (.ref f_Book_tell) = true)
    (a_Book_answer : PySem.W.findIn K (.ref CB) "answer" = some (some (.ref f_Book_answer)))
    (i_Book_answer : PySem.W.isFn K (.ref f_Book_answer) = true)
    (l_Book_answer : K.lookup f_Book_answer = some ⟨oc_Book_answer, od_Book_answer, .func (PySem.W.fnOf "answer" "Book.answer" (defArgs s_Book_answer) (defBody s_Book_answer) (defScope s_Book_answer) .none kV_Book_answer dc_Book_answer pm_Book_answer an_Book_answer cd_Book_answer ct_Book_answer), sl_Book_answer⟩)
    (c_Book_answer : PySem.W.codeIn K cd_Book_answer "Book.answer" = true)
    (k_Book_answer : PySem.W.keepIn K (.ref f_Book_answer) = true)
    (a_Book_end : PySem.W.findIn K (.ref CB) "end" = some (some (.ref f_Book_end)))
    (i_Book_end : PySem.W.isFn K (.ref f_Book_end) = true)
    (l_Book_end : K.lookup f_Book_end = some ⟨oc_Book_end, od_Book_end, .func (PySem.W.fnOf "end" "Book.end" (defArgs s_Book_end) (defBody s_Book_end) (defScope s_Book_end) .none kV_Book_end dc_Book_end pm_Book_end an_Book_end cd_Book_end ct_Book_end), sl_Book_end⟩)
    (c_Book_end : PySem.W.codeIn K cd_Book_end "Book.end" = true)
    (k_Book_end : PySem.W.keepIn K (.ref f_Book_end) = true)
    (a_Book_rest : PySem.W.findIn K (.ref CB) "rest" = some (some (.ref f_Book_rest)))
    (i_Book_rest : PySem.W.isFn K (.ref f_Book_rest) = true)
    (l_Book_rest : K.lookup f_Book_rest = some ⟨oc_Book_rest, od_Book_rest, .func (PySem.W.fnOf "rest" "Book.rest" (defArgs s_Book_rest) (defBody s_Book_rest) (defScope s_Book_rest) .none kV_Book_rest dc_Book_rest pm_Book_rest an_Book_rest cd_Book_rest ct_Book_rest), sl_Book_rest⟩)
    (c_Book_rest : PySem.W.codeIn K cd_Book_rest "Book.rest" = true)
    (k_Book_rest : PySem.W.keepIn K (.ref f_Book_rest) = true)
    (a_Book_take_out : PySem.W.findIn K (.ref CB) "take_out" = some (some (.ref f_Book_take_out)))
    (i_Book_take_out : PySem.W.isFn K (.ref f_Book_take_out) = true)
    (l_Book_take_out : K.lookup f_Book_take_out = some ⟨oc_Book_take_out, od_Book_take_out, .func (PySem.W.fnOf "take_out" "Book.take_out" (defArgs s_Book_take_out) (defBody s_Book_take_out) (defScope s_Book_take_out) .none kV_Book_take_out dc_Book_take_out pm_Book_take_out an_Book_take_out cd_Book_take_out ct_Book_take_out), sl_Book_take_out⟩)
    (c_Book_take_out : PySem.W.codeIn K cd_Book_take_out "Book.take_out" = true)
    (k_Book_take_out : PySem.W.keepIn K (.ref f_Book_take_out) = true)
    (a_Book_take_out_if_empty : PySem.W.findIn K (.ref CB) "take_out_if_empty" = some (some (.ref f_Book_take_out_if_empty)))
    (i_Book_take_out_if_empty : PySem.W.isFn K (.ref f_Book_take_out_if_empty) = true)
    (l_Book_take_out_if_empty : K.lookup f_Book_take_out_if_empty = some ⟨oc_Book_take_out_if_empty, od_Book_take_out_if_empty, .func (PySem.W.fnOf "take_out_if_empty" "Book.take_out_if_empty" (defArgs s_Book_take_out_if_empty) (defBody s_Book_take_out_if_empty) (defScope s_Book_take_out_if_empty) .none kV_Book_take_out_if_empty dc_Book_take_out_if_empty pm_Book_take_out_if_empty an_Book_take_out_if_empty cd_Book_take_out_if_empty ct_Book_take_out_if_empty), sl_Book_take_out_if_empty⟩)
    (c_Book_take_out_if_empty : PySem.W.codeIn K cd_Book_take_out_if_empty "Book.take_out_if_empty" = true)
    (k_Book_take_out_if_empty : PySem.W.keepIn K (.ref f_Book_take_out_if_empty) = true)
    (a_Book_wait : PySem.W.findIn K (.ref CB) "wait" = some (some (.ref f_Book_wait)))
    (i_Book_wait : PySem.W.isFn K (.ref f_Book_wait) = true)
    (l_Book_wait : K.lookup f_Book_wait = some ⟨oc_Book_wait, od_Book_wait, .func (PySem.W.fnOf "wait" "Book.wait" (defArgs s_Book_wait) (defBody s_Book_wait) (defScope s_Book_wait) .none kV_Book_wait dc_Book_wait pm_Book_wait an_Book_wait cd_Book_wait ct_Book_wait), sl_Book_wait⟩)
    (c_Book_wait : PySem.W.codeIn K cd_Book_wait "Book.wait" = true)
    (k_Book_wait : PySem.W.keepIn K (.ref f_Book_wait) = true)
    (a_Book_arrive : PySem.W.findIn K (.ref CB) "arrive" = some (some (.ref f_Book_arrive)))
    (i_Book_arrive : PySem.W.isFn K (.ref f_Book_arrive) = true)
    (l_Book_arrive : K.lookup f_Book_arrive = some ⟨oc_Book_arrive, od_Book_arrive, .func (PySem.W.fnOf "arrive" "Book.arrive" (defArgs s_Book_arrive) (defBody s_Book_arrive) (defScope s_Book_arrive) .none kV_Book_arrive dc_Book_arrive pm_Book_arrive an_Book_arrive cd_Book_arrive ct_Book_arrive), sl_Book_arrive⟩)
    (c_Book_arrive : PySem.W.codeIn K cd_Book_arrive "Book.arrive" = true)
    (k_Book_arrive : PySem.W.keepIn K (.ref f_Book_arrive) = true)
    (a_Book_come : PySem.W.findIn K (.ref CB) "come" = some (some (.ref f_Book_come)))
    (i_Book_come : PySem.W.isFn K (.ref f_Book_come) = true)
    (l_Book_come : K.lookup f_Book_come = some ⟨oc_Book_come, od_Book_come, .func (PySem.W.fnOf "come" "Book.come" (defArgs s_Book_come) (defBody s_Book_come) (defScope s_Book_come) .none kV_Book_come dc_Book_come pm_Book_come an_Book_come cd_Book_come ct_Book_come), sl_Book_come⟩)
    (c_Book_come : PySem.W.codeIn K cd_Book_come "Book.come" = true)
    (k_Book_come : PySem.W.keepIn K (.ref f_Book_come) = true)
    (a_Book_other_line : PySem.W.findIn K (.ref CB) "other_line" = some (some (.ref f_Book_other_line)))
    (i_Book_other_line : PySem.W.isFn K (.ref f_Book_other_line) = true)
    (l_Book_other_line : K.lookup f_Book_other_line = some ⟨oc_Book_other_line, od_Book_other_line, .func (PySem.W.fnOf "other_line" "Book.other_line" (defArgs s_Book_other_line) (defBody s_Book_other_line) (defScope s_Book_other_line) .none kV_Book_other_line dc_Book_other_line pm_Book_other_line an_Book_other_line cd_Book_other_line ct_Book_other_line), sl_Book_other_line⟩)
    (c_Book_other_line : PySem.W.codeIn K cd_Book_other_line "Book.other_line" = true)
    (k_Book_other_line : PySem.W.keepIn K (.ref f_Book_other_line) = true)
    (a_Book_can_trade : PySem.W.findIn K (.ref CB) "can_trade" = some (some (.ref f_Book_can_trade)))
    (i_Book_can_trade : PySem.W.isFn K (.ref f_Book_can_trade) = true)
    (l_Book_can_trade : K.lookup f_Book_can_trade = some ⟨oc_Book_can_trade, od_Book_can_trade, .func (PySem.W.fnOf "can_trade" "Book.can_trade" (defArgs s_Book_can_trade) (defBody s_Book_can_trade) (defScope s_Book_can_trade) .none kV_Book_can_trade dc_Book_can_trade pm_Book_can_trade an_Book_can_trade cd_Book_can_trade ct_Book_can_trade), sl_Book_can_trade⟩)
    (c_Book_can_trade : PySem.W.codeIn K cd_Book_can_trade "Book.can_trade" = true)
    (k_Book_can_trade : PySem.W.keepIn K (.ref f_Book_can_trade) = true)
    (a_Book_offered_by_others : PySem.W.findIn K (.ref CB) "offered_by_others" = some (some (.ref f_Book_offered_by_others)))
    (i_Book_offered_by_others : PySem.W.isFn K (.ref f_Book_offered_by_others) = true)
    (l_Book_offered_by_others : K.lookup f_Book_offered_by_others = some ⟨oc_Book_offered_by_others, od_Book_offered_by_others, .func (PySem.W.fnOf "offered_by_others" "Book.offered_by_others" (defArgs s_Book_offered_by_others) (defBody s_Book_offered_by_others) (defScope s_Book_offered_by_others) .none kV_Book_offered_by_others dc_Book_offered_by_others pm_Book_offered_by_others an_Book_offered_by_others cd_Book_offered_by_others ct_Book_offered_by_others), sl_Book_offered_by_others⟩)
    (c_Book_offered_by_others : PySem.W.codeIn K cd_Book_offered_by_others "Book.offered_by_others" = true)
    (k_Book_offered_by_others : PySem.W.keepIn K (.ref f_Book_offered_by_others) = true)
    (a_Book_trade : PySem.W.findIn K (.ref CB) "trade" = some (some (.ref f_Book_trade)))
    (i_Book_trade : PySem.W.isFn K (.ref f_Book_trade) = true)
    (l_Book_trade : K.lookup f_Book_trade = some ⟨oc_Book_trade, od_Book_trade, .func (PySem.W.fnOf "trade" "Book.trade" (defArgs s_Book_trade) (defBody s_Book_trade) (defScope s_Book_trade) .none kV_Book_trade dc_Book_trade pm_Book_trade an_Book_trade cd_Book_trade ct_Book_trade), sl_Book_trade⟩)
    (c_Book_trade : PySem.W.codeIn K cd_Book_trade "Book.trade" = true)
    (k_Book_trade : PySem.W.keepIn K (.ref f_Book_trade) = true)
    (a_Book_exchange : PySem.W.findIn K (.ref CB) "exchange" = some (some (.ref f_Book_exchange)))
    (i_Book_exchange : PySem.W.isFn K (.ref f_Book_exchange) = true)
    (l_Book_exchange : K.lookup f_Book_exchange = some ⟨oc_Book_exchange, od_Book_exchange, .func (PySem.W.fnOf "exchange" "Book.exchange" (defArgs s_Book_exchange) (defBody s_Book_exchange) (defScope s_Book_exchange) .none kV_Book_exchange dc_Book_exchange pm_Book_exchange an_Book_exchange cd_Book_exchange ct_Book_exchange), sl_Book_exchange⟩)
    (c_Book_exchange : PySem.W.codeIn K cd_Book_exchange "Book.exchange" = true)
    (k_Book_exchange : PySem.W.keepIn K (.ref f_Book_exchange) = true)
    (a_Book_settle : PySem.W.findIn K (.ref CB) "settle" = some (some (.ref f_Book_settle)))
    (i_Book_settle : PySem.W.isFn K (.ref f_Book_settle) = true)
    (l_Book_settle : K.lookup f_Book_settle = some ⟨oc_Book_settle, od_Book_settle, .func (PySem.W.fnOf "settle" "Book.settle" (defArgs s_Book_settle) (defBody s_Book_settle) (defScope s_Book_settle) .none kV_Book_settle dc_Book_settle pm_Book_settle an_Book_settle cd_Book_settle ct_Book_settle), sl_Book_settle⟩)
    (c_Book_settle : PySem.W.codeIn K cd_Book_settle "Book.settle" = true)
    (k_Book_settle : PySem.W.keepIn K (.ref f_Book_settle) = true)
    (a_Book_trigger_stops : PySem.W.findIn K (.ref CB) "trigger_stops" = some (some (.ref f_Book_trigger_stops)))
    (i_Book_trigger_stops : PySem.W.isFn K (.ref f_Book_trigger_stops) = true)
    (l_Book_trigger_stops : K.lookup f_Book_trigger_stops = some ⟨oc_Book_trigger_stops, od_Book_trigger_stops, .func (PySem.W.fnOf "trigger_stops" "Book.trigger_stops" (defArgs s_Book_trigger_stops) (defBody s_Book_trigger_stops) (defScope s_Book_trigger_stops) .none kV_Book_trigger_stops dc_Book_trigger_stops pm_Book_trigger_stops an_Book_trigger_stops cd_Book_trigger_stops ct_Book_trigger_stops), sl_Book_trigger_stops⟩)
    (c_Book_trigger_stops : PySem.W.codeIn K cd_Book_trigger_stops "Book.trigger_stops" = true)
    (k_Book_trigger_stops : PySem.W.keepIn K (.ref f_Book_trigger_stops) = true)
    (a_Book_take_triggered : PySem.W.findIn K (.ref CB) "take_triggered" = some (some (.ref f_Book_take_triggered)))
    (i_Book_take_triggered : PySem.W.isFn K (.ref f_Book_take_triggered) = true)
    (l_Book_take_triggered : K.lookup f_Book_take_triggered = some ⟨oc_Book_take_triggered, od_Book_take_triggered, .func (PySem.W.fnOf "take_triggered" "Book.take_triggered" (defArgs s_Book_take_triggered) (defBody s_Book_take_triggered) (defScope s_Book_take_triggered) .none kV_Book_take_triggered dc_Book_take_triggered pm_Book_take_triggered an_Book_take_triggered cd_Book_take_triggered ct_Book_take_triggered), sl_Book_take_triggered⟩)
    (c_Book_take_triggered : PySem.W.codeIn K cd_Book_take_triggered "Book.take_triggered" = true)
    (k_Book_take_triggered : PySem.W.keepIn K (.ref f_Book_take_triggered) = true)
    (a_Book_price_of_auction : PySem.W.findIn K (.ref CB) "price_of_auction" = some (some (.ref f_Book_price_of_auction)))
    (i_Book_price_of_auction : PySem.W.isFn K (.ref f_Book_price_of_auction) = true)
    (l_Book_price_of_auction : K.lookup f_Book_price_of_auction = some ⟨oc_Book_price_of_auction, od_Book_price_of_auction, .func (PySem.W.fnOf "price_of_auction" "Book.price_of_auction" (defArgs s_Book_price_of_auction) (defBody s_Book_price_of_auction) (defScope s_Book_price_of_auction) .none kV_Book_price_of_auction dc_Book_price_of_auction pm_Book_price_of_auction an_Book_price_of_auction cd_Book_price_of_auction ct_Book_price_of_auction), sl_Book_price_of_auction⟩)
    (c_Book_price_of_auction : PySem.W.codeIn K cd_Book_price_of_auction "Book.price_of_auction" = true)
    (k_Book_price_of_auction : PySem.W.keepIn K (.ref f_Book_price_of_auction) = true)
    (a_Book_trade_auction : PySem.W.findIn K (.ref CB) "trade_auction" = some (some (.ref f_Book_trade_auction)))
    (i_Book_trade_auction : PySem.W.isFn K (.ref f_Book_trade_auction) = true)
    (l_Book_trade_auction : K.lookup f_Book_trade_auction = some ⟨oc_Book_trade_auction, od_Book_trade_auction, .func (PySem.W.fnOf "trade_auction" "Book.trade_auction" (defArgs s_Book_trade_auction) (defBody s_Book_trade_auction) (defScope s_Book_trade_auction) .none kV_Book_trade_auction dc_Book_trade_auction pm_Book_trade_auction an_Book_trade_auction cd_Book_trade_auction ct_Book_trade_auction), sl_Book_trade_auction⟩)
    (c_Book_trade_auction : PySem.W.codeIn K cd_Book_trade_auction "Book.trade_auction" = true)
    (k_Book_trade_auction : PySem.W.keepIn K (.ref f_Book_trade_auction) = true)
    (a_Book_both_accept : PySem.W.findIn K (.ref CB) "both_accept" = some (some (.ref f_Book_both_accept)))
    (i_Book_both_accept : PySem.W.isFn K (.ref f_Book_both_accept) = true)
    (l_Book_both_accept : K.lookup f_Book_both_accept = some ⟨oc_Book_both_accept, od_Book_both_accept, .func (PySem.W.fnOf "both_accept" "Book.both_accept" (defArgs s_Book_both_accept) (defBody s_Book_both_accept) (defScope s_Book_both_accept) .none kV_Book_both_accept dc_Book_both_accept pm_Book_both_accept an_Book_both_accept cd_Book_both_accept ct_Book_both_accept), sl_Book_both_accept⟩)
    (c_Book_both_accept : PySem.W.codeIn K cd_Book_both_accept "Book.both_accept" = true)
    (k_Book_both_accept : PySem.W.keepIn K (.ref f_Book_both_accept) = true)
    (a_answer_call : PySem.W.nsIn K mainGlobals "answer_call" = some (some (.ref f_answer_call)))
    (l_answer_call : K.lookup f_answer_call = some ⟨oc_answer_call, od_answer_call, .func (PySem.W.fnOf "answer_call" "answer_call" (defArgs s_answer_call) (defBody s_answer_call) (defScope s_answer_call) .none kV_answer_call dc_answer_call pm_answer_call an_answer_call cd_answer_call ct_answer_call), sl_answer_call⟩)
    (c_answer_call : PySem.W.codeIn K cd_answer_call "answer_call" = true)
    (k_answer_call : PySem.W.keepIn K (.ref f_answer_call) = true)
    (a_answers : PySem.W.nsIn K mainGlobals "answers" = some (some (.ref f_answers)))
    (l_answers : K.lookup f_answers = some ⟨oc_answers, od_answers, .func (PySem.W.fnOf "answers" "answers" (defArgs s_answers) (defBody s_answers) (defScope s_answers) .none kV_answers dc_answers pm_answers an_answers cd_answers ct_answers), sl_answers⟩)
    (c_answers : PySem.W.codeIn K cd_answers "answers" = true)
    (k_answers : PySem.W.keepIn K (.ref f_answers) = true)
    (pgO : PySem.W.plainGet K CO Str.empty = true)
    (hdO : PySem.W.hasDictIn K CO = true)
    (poO : PySem.W.plainOver K CO = true)
    (saO : PySem.W.findIn K (.ref CO) "__setattr__" = some (some (.builtin "object.__setattr__")))
    (mkO : PySem.W.makesIn K CO = true)
    (kcO : PySem.W.keepIn K (.ref CO) = true)
    (pgB : PySem.W.plainGet K CB Str.empty = true)
    (hdB : PySem.W.hasDictIn K CB = true)
    (poB : PySem.W.plainOver K CB = true)
    (saB : PySem.W.findIn K (.ref CB) "__setattr__" = some (some (.builtin "object.__setattr__")))
    (mkB : PySem.W.makesIn K CB = true)
    (kcB : PySem.W.keepIn K (.ref CB) = true)
    (mroO : PySem.W.mroIn K CO (.type "object") = some true)
    (eqO : PySem.W.findIn K (.ref CO) "__eq__" = some (some (.builtin "object.__eq__")))
    (nO_number : PySem.W.findIn K (.ref CO) "number" = some none)
    (nO_who : PySem.W.findIn K (.ref CO) "who" = some none)
    (nO_side : PySem.W.findIn K (.ref CO) "side" = some none)
    (nO_kind : PySem.W.findIn K (.ref CO) "kind" = some none)
    (nO_price : PySem.W.findIn K (.ref CO) "price" = some none)
    (nO_amount : PySem.W.findIn K (.ref CO) "amount" = some none)
    (nO_trigger : PySem.W.findIn K (.ref CO) "trigger" = some none)
    (nB_lines : PySem.W.findIn K (.ref CB) "lines" = some none)
    (nB_waiting : PySem.W.findIn K (.ref CB) "waiting" = some none)
    (nB_known : PySem.W.findIn K (.ref CB) "known" = some none)
    (nB_latest : PySem.W.findIn K (.ref CB) "latest" = some none)
    (nB_in_auction : PySem.W.findIn K (.ref CB) "in_auction" = some none)
    (nB_events : PySem.W.findIn K (.ref CB) "events" = some none)
    (v_ORDER : PySem.W.nsIn K mainGlobals "ORDER" = some (some (.int 1 t_ORDER)))
    (v_CANCEL : PySem.W.nsIn K mainGlobals "CANCEL" = some (some (.int 2 t_CANCEL)))
    (v_CHANGE : PySem.W.nsIn K mainGlobals "CHANGE" = some (some (.int 3 t_CHANGE)))
    (v_AUCTION : PySem.W.nsIn K mainGlobals "AUCTION" = some (some (.int 4 t_AUCTION)))
    (v_BUYS : PySem.W.nsIn K mainGlobals "BUYS" = some (some (.int 0 t_BUYS)))
    (v_SELLS : PySem.W.nsIn K mainGlobals "SELLS" = some (some (.int 1 t_SELLS)))
    (v_LIMIT : PySem.W.nsIn K mainGlobals "LIMIT" = some (some (.int 0 t_LIMIT)))
    (v_MARKET : PySem.W.nsIn K mainGlobals "MARKET" = some (some (.int 1 t_MARKET)))
    (v_ALL_AT_ONCE : PySem.W.nsIn K mainGlobals "ALL_AT_ONCE" = some (some (.int 3 t_ALL_AT_ONCE)))
    (v_ONLY_TO_REST : PySem.W.nsIn K mainGlobals "ONLY_TO_REST" = some (some (.int 4 t_ONLY_TO_REST)))
    (v_STOP : PySem.W.nsIn K mainGlobals "STOP" = some (some (.int 5 t_STOP)))
    (v_STOP_WITH_LIMIT : PySem.W.nsIn K mainGlobals "STOP_WITH_LIMIT" = some (some (.int 6 t_STOP_WITH_LIMIT)))
    (v_TRADED : PySem.W.nsIn K mainGlobals "TRADED" = some (some (.int 1 t_TRADED)))
    (v_RESTS : PySem.W.nsIn K mainGlobals "RESTS" = some (some (.int 2 t_RESTS)))
    (v_ENDED : PySem.W.nsIn K mainGlobals "ENDED" = some (some (.int 3 t_ENDED)))
    (v_TRIGGERED : PySem.W.nsIn K mainGlobals "TRIGGERED" = some (some (.int 4 t_TRIGGERED)))
    (v_NUMBERS_OF_AN_EVENT : PySem.W.nsIn K mainGlobals "NUMBERS_OF_AN_EVENT" = some (some (.int 6 t_NUMBERS_OF_AN_EVENT)))
    (v_CANCELLED : PySem.W.nsIn K mainGlobals "CANCELLED" = some (some (.int 1 t_CANCELLED)))
    (v_NOT_TRADED : PySem.W.nsIn K mainGlobals "NOT_TRADED" = some (some (.int 2 t_NOT_TRADED)))
    (v_TOO_LITTLE : PySem.W.nsIn K mainGlobals "TOO_LITTLE" = some (some (.int 3 t_TOO_LITTLE)))
    (v_WOULD_TRADE : PySem.W.nsIn K mainGlobals "WOULD_TRADE" = some (some (.int 4 t_WOULD_TRADE)))
    (v_SAME_PERSON : PySem.W.nsIn K mainGlobals "SAME_PERSON" = some (some (.int 5 t_SAME_PERSON)))
    (v_LARGEST_PERSON : PySem.W.nsIn K mainGlobals "LARGEST_PERSON" = some (some (.int 255 t_LARGEST_PERSON)))
    (v_LARGEST : PySem.W.nsIn K mainGlobals "LARGEST" = some (some (.int 1000000 t_LARGEST)))
    (v_MOST_ORDERS : PySem.W.nsIn K mainGlobals "MOST_ORDERS" = some (some (.int 1024 t_MOST_ORDERS)))
    (b_len : PySem.W.nsIn K mainGlobals "len" = some none)
    (b_sum : PySem.W.nsIn K mainGlobals "sum" = some none)
    (b_sorted : PySem.W.nsIn K mainGlobals "sorted" = some none)
    (b_set : PySem.W.nsIn K mainGlobals "set" = some none)
    (b_abs : PySem.W.nsIn K mainGlobals "abs" = some none)
    (b_min : PySem.W.nsIn K mainGlobals "min" = some none)
    (hH : PySem.W.nsIn K mainGlobals "HOW_MANY_NUMBERS" = some (some (.ref aH)))
    (lH : K.lookup aH = some ⟨clH, dcH, .seq itH nH, slH⟩)
    (tH : clH = .type "tuple")
    (zH : itH.size ≤ sizeLine)
    (vH : Vals [V.int 0, V.int 7, V.int 1, V.int 3, V.int 1, V.int 0] itH.toList)
    :
    ∃ fd : FuncData, (∀ (s : Shared) (us : List Value), us.length = (["calls"] : List Str).length → BindsTo s fd ⟨us, []⟩ ((["calls"] : List Str).zip us)) ∧ ∀ base : Heap, K.In base → base.Ns mainGlobals mg → FnOk P w K mg base CX0 11 fa fd ["calls"] (spAnswers K 0 0) := by
  have e := hfa.symm.trans (PySem.W.mg_of X G a_answers)
  cases e
  have T : Txt K mg CO CB := { clO := ⟨pgO, hdO, poO, saO⟩, peO := ⟨mroO, eqO⟩, clB := ⟨pgB, hdB, poB, saB⟩, gO := PySem.W.mg_of X G aO, gB := PySem.W.mg_of X G aB, nO_number := nO_number, nO_who := nO_who, nO_side := nO_side, nO_kind := nO_kind, nO_price := nO_price, nO_amount := nO_amount, nO_trigger := nO_trigger, nB_lines := nB_lines, nB_waiting := nB_waiting, nB_known := nB_known, nB_latest := nB_latest, nB_in_auction := nB_in_auction, nB_events := nB_events, c_ORDER := ⟨_, PySem.W.mg_of X G v_ORDER⟩, c_CANCEL := ⟨_, PySem.W.mg_of X G v_CANCEL⟩, c_CHANGE := ⟨_, PySem.W.mg_of X G v_CHANGE⟩, c_AUCTION := ⟨_, PySem.W.mg_of X G v_AUCTION⟩, c_BUYS := ⟨_, PySem.W.mg_of X G v_BUYS⟩, c_SELLS := ⟨_, PySem.W.mg_of X G v_SELLS⟩, c_LIMIT := ⟨_, PySem.W.mg_of X G v_LIMIT⟩, c_MARKET := ⟨_, PySem.W.mg_of X G v_MARKET⟩, c_ALL_AT_ONCE := ⟨_, PySem.W.mg_of X G v_ALL_AT_ONCE⟩, c_ONLY_TO_REST := ⟨_, PySem.W.mg_of X G v_ONLY_TO_REST⟩, c_STOP := ⟨_, PySem.W.mg_of X G v_STOP⟩, c_STOP_WITH_LIMIT := ⟨_, PySem.W.mg_of X G v_STOP_WITH_LIMIT⟩, c_TRADED := ⟨_, PySem.W.mg_of X G v_TRADED⟩, c_RESTS := ⟨_, PySem.W.mg_of X G v_RESTS⟩, c_ENDED := ⟨_, PySem.W.mg_of X G v_ENDED⟩, c_TRIGGERED := ⟨_, PySem.W.mg_of X G v_TRIGGERED⟩, c_NUMBERS_OF_AN_EVENT := ⟨_, PySem.W.mg_of X G v_NUMBERS_OF_AN_EVENT⟩, c_CANCELLED := ⟨_, PySem.W.mg_of X G v_CANCELLED⟩, c_NOT_TRADED := ⟨_, PySem.W.mg_of X G v_NOT_TRADED⟩, c_TOO_LITTLE := ⟨_, PySem.W.mg_of X G v_TOO_LITTLE⟩, c_WOULD_TRADE := ⟨_, PySem.W.mg_of X G v_WOULD_TRADE⟩, c_SAME_PERSON := ⟨_, PySem.W.mg_of X G v_SAME_PERSON⟩, c_LARGEST_PERSON := ⟨_, PySem.W.mg_of X G v_LARGEST_PERSON⟩, c_LARGEST := ⟨_, PySem.W.mg_of X G v_LARGEST⟩, c_MOST_ORDERS := ⟨_, PySem.W.mg_of X G v_MOST_ORDERS⟩, b_len := PySem.W.mg_none_of X G b_len, b_sum := PySem.W.mg_none_of X G b_sum, b_sorted := PySem.W.mg_none_of X G b_sorted, b_set := PySem.W.mg_none_of X G b_set, b_abs := PySem.W.mg_none_of X G b_abs, b_min := PySem.W.mg_none_of X G b_min, hmn := ⟨aH, PySem.W.mg_of X G hH, fun _ => .inr ⟨_, itH, nH, lH, tH, rfl, zH, vH⟩⟩ }
  have F_has_price := fun_mk (st := s_has_price) l_has_price c_has_price k_has_price
  have B_has_price := F_has_price.binds (ps := ["order"]) fun _ _ _ _ _ _ us hl => match us, hl with | [_], _ => rfl
  have F_is_stop := fun_mk (st := s_is_stop) l_is_stop c_is_stop k_is_stop
  have B_is_stop := F_is_stop.binds (ps := ["order"]) fun _ _ _ _ _ _ us hl => match us, hl with | [_], _ => rfl
  have F_is_in_range := fun_mk (st := s_is_in_range) l_is_in_range c_is_in_range k_is_in_range
  have B_is_in_range := F_is_in_range.binds (ps := ["number"]) fun _ _ _ _ _ _ us hl => match us, hl with | [_], _ => rfl
  have F_accepts := fun_mk (st := s_accepts) l_accepts c_accepts k_accepts
  have B_accepts := F_accepts.binds (ps := ["order", "price"]) fun _ _ _ _ _ _ us hl => match us, hl with | [_, _], _ => rfl
  have F_is_triggered := fun_mk (st := s_is_triggered) l_is_triggered c_is_triggered k_is_triggered
  have B_is_triggered := F_is_triggered.binds (ps := ["stop", "latest"]) fun _ _ _ _ _ _ us hl => match us, hl with | [_, _], _ => rfl
  have F_is_better := fun_mk (st := s_is_better) l_is_better c_is_better k_is_better
  have B_is_better := F_is_better.binds (ps := ["order", "other"]) fun _ _ _ _ _ _ us hl => match us, hl with | [_, _], _ => rfl
  have F_auction_price := fun_mk (st := s_auction_price) l_auction_price c_auction_price k_auction_price
  have B_auction_price := F_auction_price.binds (ps := ["buyers", "sellers", "latest"]) fun _ _ _ _ _ _ us hl => match us, hl with | [_, _, _], _ => rfl
  have F_Book_init := fun_mk (st := s_Book_init) l_Book_init c_Book_init k_Book_init
  have B_Book_init := F_Book_init.binds (ps := ["self"]) fun _ _ _ _ _ _ us hl => match us, hl with | [_], _ => rfl
  have F_Book_tell := fun_mk (st := s_Book_tell) l_Book_tell c_Book_tell k_Book_tell
  have B_Book_tell := F_Book_tell.binds (ps := ["self", "event", "number", "other", "price", "amount", "left"]) fun _ _ _ _ _ _ us hl => match us, hl with | [_, _, _, _, _, _, _], _ => rfl
  have F_Book_answer := fun_mk (st := s_Book_answer) l_Book_answer c_Book_answer k_Book_answer
  have B_Book_answer := F_Book_answer.binds (ps := ["self"]) fun _ _ _ _ _ _ us hl => match us, hl with | [_], _ => rfl
  have F_Book_other_line := fun_mk (st := s_Book_other_line) l_Book_other_line c_Book_other_line k_Book_other_line
  have B_Book_other_line := F_Book_other_line.binds (ps := ["self", "order"]) fun _ _ _ _ _ _ us hl => match us, hl with | [_, _], _ => rfl
  have F_Order_init := fun_mk (st := s_Order_init) l_Order_init c_Order_init k_Order_init
  have B_Order_init := F_Order_init.binds (ps := ["self", "numbers"]) fun _ _ _ _ _ _ us hl => match us, hl with | [_, _], _ => rfl
  have F_is_as_told := fun_mk (st := s_is_as_told) l_is_as_told c_is_as_told k_is_as_told
  have B_is_as_told := F_is_as_told.binds (ps := ["order"]) fun _ _ _ _ _ _ us hl => match us, hl with | [_], _ => rfl
  have F_place_in := fun_mk (st := s_place_in) l_place_in c_place_in k_place_in
  have B_place_in := F_place_in.binds (ps := ["line", "order"]) fun _ _ _ _ _ _ us hl => match us, hl with | [_, _], _ => rfl
  have F_Book_end := fun_mk (st := s_Book_end) l_Book_end c_Book_end k_Book_end
  have B_Book_end := F_Book_end.binds (ps := ["self", "order", "why"]) fun _ _ _ _ _ _ us hl => match us, hl with | [_, _, _], _ => rfl
  have F_Book_take_out := fun_mk (st := s_Book_take_out) l_Book_take_out c_Book_take_out k_Book_take_out
  have B_Book_take_out := F_Book_take_out.binds (ps := ["self", "order"]) fun _ _ _ _ _ _ us hl => match us, hl with | [_, _], _ => rfl
  have F_Book_can_trade := fun_mk (st := s_Book_can_trade) l_Book_can_trade c_Book_can_trade k_Book_can_trade
  have B_Book_can_trade := F_Book_can_trade.binds (ps := ["self", "order"]) fun _ _ _ _ _ _ us hl => match us, hl with | [_, _], _ => rfl
  have F_Book_offered_by_others := fun_mk (st := s_Book_offered_by_others) l_Book_offered_by_others c_Book_offered_by_others k_Book_offered_by_others
  have B_Book_offered_by_others := F_Book_offered_by_others.binds (ps := ["self", "order"]) fun _ _ _ _ _ _ us hl => match us, hl with | [_, _], _ => rfl
  have F_Book_exchange := fun_mk (st := s_Book_exchange) l_Book_exchange c_Book_exchange k_Book_exchange
  have B_Book_exchange := F_Book_exchange.binds (ps := ["self", "order", "other", "price"]) fun _ _ _ _ _ _ us hl => match us, hl with | [_, _, _, _], _ => rfl
  have F_Book_price_of_auction := fun_mk (st := s_Book_price_of_auction) l_Book_price_of_auction c_Book_price_of_auction k_Book_price_of_auction
  have B_Book_price_of_auction := F_Book_price_of_auction.binds (ps := ["self"]) fun _ _ _ _ _ _ us hl => match us, hl with | [_], _ => rfl
  have F_Book_both_accept := fun_mk (st := s_Book_both_accept) l_Book_both_accept c_Book_both_accept k_Book_both_accept
  have B_Book_both_accept := F_Book_both_accept.binds (ps := ["self", "price"]) fun _ _ _ _ _ _ us hl => match us, hl with | [_, _], _ => rfl
  have F_Book_cancel := fun_mk (st := s_Book_cancel) l_Book_cancel c_Book_cancel k_Book_cancel
  have B_Book_cancel := F_Book_cancel.binds (ps := ["self", "number"]) fun _ _ _ _ _ _ us hl => match us, hl with | [_, _], _ => rfl
  have F_Book_look := fun_mk (st := s_Book_look) l_Book_look c_Book_look k_Book_look
  have B_Book_look := F_Book_look.binds (ps := ["self"]) fun _ _ _ _ _ _ us hl => match us, hl with | [_], _ => rfl
  have F_Book_rest := fun_mk (st := s_Book_rest) l_Book_rest c_Book_rest k_Book_rest
  have B_Book_rest := F_Book_rest.binds (ps := ["self", "order"]) fun _ _ _ _ _ _ us hl => match us, hl with | [_, _], _ => rfl
  have F_Book_take_out_if_empty := fun_mk (st := s_Book_take_out_if_empty) l_Book_take_out_if_empty c_Book_take_out_if_empty k_Book_take_out_if_empty
  have B_Book_take_out_if_empty := F_Book_take_out_if_empty.binds (ps := ["self", "order"]) fun _ _ _ _ _ _ us hl => match us, hl with | [_, _], _ => rfl
  have F_Book_take_triggered := fun_mk (st := s_Book_take_triggered) l_Book_take_triggered c_Book_take_triggered k_Book_take_triggered
  have B_Book_take_triggered := F_Book_take_triggered.binds (ps := ["self"]) fun _ _ _ _ _ _ us hl => match us, hl with | [_], _ => rfl
  have F_Book_trade := fun_mk (st := s_Book_trade) l_Book_trade c_Book_trade k_Book_trade
  have B_Book_trade := F_Book_trade.binds (ps := ["self", "order"]) fun _ _ _ _ _ _ us hl => match us, hl with | [_, _], _ => rfl
  have F_Book_settle := fun_mk (st := s_Book_settle) l_Book_settle c_Book_settle k_Book_settle
  have B_Book_settle := F_Book_settle.binds (ps := ["self", "order"]) fun _ _ _ _ _ _ us hl => match us, hl with | [_, _], _ => rfl
  have F_Book_trade_auction := fun_mk (st := s_Book_trade_auction) l_Book_trade_auction c_Book_trade_auction k_Book_trade_auction
  have B_Book_trade_auction := F_Book_trade_auction.binds (ps := ["self"]) fun _ _ _ _ _ _ us hl => match us, hl with | [_], _ => rfl
  have F_Book_come := fun_mk (st := s_Book_come) l_Book_come c_Book_come k_Book_come
  have B_Book_come := F_Book_come.binds (ps := ["self", "order"]) fun _ _ _ _ _ _ us hl => match us, hl with | [_, _], _ => rfl
  have F_Book_trigger_stops := fun_mk (st := s_Book_trigger_stops) l_Book_trigger_stops c_Book_trigger_stops k_Book_trigger_stops
  have B_Book_trigger_stops := F_Book_trigger_stops.binds (ps := ["self"]) fun _ _ _ _ _ _ us hl => match us, hl with | [_], _ => rfl
  have F_Book_auction := fun_mk (st := s_Book_auction) l_Book_auction c_Book_auction k_Book_auction
  have B_Book_auction := F_Book_auction.binds (ps := ["self", "on"]) fun _ _ _ _ _ _ us hl => match us, hl with | [_, _], _ => rfl
  have F_Book_wait := fun_mk (st := s_Book_wait) l_Book_wait c_Book_wait k_Book_wait
  have B_Book_wait := F_Book_wait.binds (ps := ["self", "stop"]) fun _ _ _ _ _ _ us hl => match us, hl with | [_, _], _ => rfl
  have F_Book_arrive := fun_mk (st := s_Book_arrive) l_Book_arrive c_Book_arrive k_Book_arrive
  have B_Book_arrive := F_Book_arrive.binds (ps := ["self", "order"]) fun _ _ _ _ _ _ us hl => match us, hl with | [_, _], _ => rfl
  have F_Book_take_order := fun_mk (st := s_Book_take_order) l_Book_take_order c_Book_take_order k_Book_take_order
  have B_Book_take_order := F_Book_take_order.binds (ps := ["self", "numbers"]) fun _ _ _ _ _ _ us hl => match us, hl with | [_, _], _ => rfl
  have F_Book_change := fun_mk (st := s_Book_change) l_Book_change c_Book_change k_Book_change
  have B_Book_change := F_Book_change.binds (ps := ["self", "number", "price", "amount"]) fun _ _ _ _ _ _ us hl => match us, hl with | [_, _, _, _], _ => rfl
  have F_answer_call := fun_mk (st := s_answer_call) l_answer_call c_answer_call k_answer_call
  have B_answer_call := F_answer_call.binds (ps := ["book", "call", "numbers"]) fun _ _ _ _ _ _ us hl => match us, hl with | [_, _, _], _ => rfl
  have F_answers := fun_mk (st := s_answers) l_answers c_answers k_answers
  have B_answers := F_answers.binds (ps := ["calls"]) fun _ _ _ _ _ _ us hl => match us, hl with | [_], _ => rfl
  refine ⟨PySem.W.fnOf "answers" "answers" (defArgs s_answers) (defBody s_answers) (defScope s_answers) .none kV_answers dc_answers pm_answers an_answers cd_answers ct_answers, fun s us hu => match us, hu with | [_], _ => .of_eq rfl, fun base _ _ => ?_⟩
  have K_has_price : FnOk P w K mg base CX0 1 f_has_price _ ["order"] (spHasPrice CO) := ok_has_price F_has_price T 
  have K_is_stop : FnOk P w K mg base CX0 1 f_is_stop _ ["order"] (spIsStop CO) := ok_is_stop F_is_stop T 
  have K_is_in_range : FnOk P w K mg base CX0 1 f_is_in_range _ ["number"] spInRange := ok_is_in_range F_is_in_range T 
  have K_accepts : FnOk P w K mg base CX0 1 f_accepts _ ["order", "price"] (spAccepts CO) := ok_accepts F_accepts T 
  have K_is_triggered : FnOk P w K mg base CX0 1 f_is_triggered _ ["stop", "latest"] (spIsTriggered CO) := ok_is_triggered F_is_triggered T 
  have K_is_better : FnOk P w K mg base CX0 1 f_is_better _ ["order", "other"] (spIsBetter CO) := ok_is_better F_is_better T 
  have K_auction_price : FnOk P w K mg base CX0 1 f_auction_price _ ["buyers", "sellers", "latest"] (spAuctionPrice K CO) := ok_auction_price F_auction_price T 
  have K_Book_init : FnOk P w K mg base CX0 1 f_Book_init _ ["self"] (spBookInit CB) := ok_Book_init F_Book_init T 
  have K_Book_tell : FnOk P w K mg base CX0 1 f_Book_tell _ ["self", "event", "number", "other", "price", "amount", "left"] (spTell K CO CB) := ok_Book_tell F_Book_tell T 
  have K_Book_answer : FnOk P w K mg base CX0 1 f_Book_answer _ ["self"] (spAnswer K CO CB) := ok_Book_answer F_Book_answer T 
  have K_Book_other_line : FnOk P w K mg base CX0 1 f_Book_other_line _ ["self", "order"] (spOtherLine K CO CB) := ok_Book_other_line F_Book_other_line T 
  have K_Order_init : FnOk P w K mg base CX0 2 f_Order_init _ ["self", "numbers"] (spOrderInit K CO) := ok_Order_init F_Order_init T ⟨K_has_price, PySem.W.mg_of X G a_has_price, k_has_price, B_has_price⟩
  have K_is_as_told : FnOk P w K mg base CX0 2 f_is_as_told _ ["order"] (spAsTold CO) := ok_is_as_told F_is_as_told T ⟨K_is_in_range, PySem.W.mg_of X G a_is_in_range, k_is_in_range, B_is_in_range⟩ ⟨K_has_price, PySem.W.mg_of X G a_has_price, k_has_price, B_has_price⟩ ⟨K_is_stop, PySem.W.mg_of X G a_is_stop, k_is_stop, B_is_stop⟩
  have K_place_in : FnOk P w K mg base CX0 2 f_place_in _ ["line", "order"] (spPlaceIn K CO) := ok_place_in F_place_in T ⟨K_is_better, PySem.W.mg_of X G a_is_better, k_is_better, B_is_better⟩
  have K_Book_end : FnOk P w K mg base CX0 2 f_Book_end _ ["self", "order", "why"] (spEnd K CO CB) := ok_Book_end F_Book_end T ⟨K_Book_tell, ⟨a_Book_tell, i_Book_tell, k_Book_tell⟩, B_Book_tell⟩
  have K_Book_take_out : FnOk P w K mg base CX0 2 f_Book_take_out _ ["self", "order"] (spTakeOut K CO CB) := ok_Book_take_out F_Book_take_out T ⟨K_is_stop, PySem.W.mg_of X G a_is_stop, k_is_stop, B_is_stop⟩
  have K_Book_can_trade : FnOk P w K mg base CX0 2 f_Book_can_trade _ ["self", "order"] (spCanTrade K CO CB) := ok_Book_can_trade F_Book_can_trade T ⟨K_Book_other_line, ⟨a_Book_other_line, i_Book_other_line, k_Book_other_line⟩, B_Book_other_line⟩ ⟨K_accepts, PySem.W.mg_of X G a_accepts, k_accepts, B_accepts⟩
  have K_Book_offered_by_others : FnOk P w K mg base CX0 2 f_Book_offered_by_others _ ["self", "order"] (spOfferedByOthers K CO CB) := ok_Book_offered_by_others F_Book_offered_by_others T ⟨K_Book_other_line, ⟨a_Book_other_line, i_Book_other_line, k_Book_other_line⟩, B_Book_other_line⟩ ⟨K_accepts, PySem.W.mg_of X G a_accepts, k_accepts, B_accepts⟩
  have K_Book_exchange : FnOk P w K mg base CX0 2 f_Book_exchange _ ["self", "order", "other", "price"] (spExchange K CO CB) := ok_Book_exchange F_Book_exchange T ⟨K_Book_tell, ⟨a_Book_tell, i_Book_tell, k_Book_tell⟩, B_Book_tell⟩
  have K_Book_price_of_auction : FnOk P w K mg base CX0 2 f_Book_price_of_auction _ ["self"] (spPriceOfAuction K CO CB) := ok_Book_price_of_auction F_Book_price_of_auction T ⟨K_auction_price, PySem.W.mg_of X G a_auction_price, k_auction_price, B_auction_price⟩
  have K_Book_both_accept : FnOk P w K mg base CX0 2 f_Book_both_accept _ ["self", "price"] (spBothAccept K CO CB) := ok_Book_both_accept F_Book_both_accept T ⟨K_accepts, PySem.W.mg_of X G a_accepts, k_accepts, B_accepts⟩
  have K_Book_cancel : FnOk P w K mg base CX0 3 f_Book_cancel _ ["self", "number"] (spCancel K CO CB) := ok_Book_cancel F_Book_cancel T ⟨K_Book_take_out, ⟨a_Book_take_out, i_Book_take_out, k_Book_take_out⟩, B_Book_take_out⟩ ⟨K_Book_end, ⟨a_Book_end, i_Book_end, k_Book_end⟩, B_Book_end⟩ ⟨K_Book_answer, ⟨a_Book_answer, i_Book_answer, k_Book_answer⟩, B_Book_answer⟩
  have K_Book_look : FnOk P w K mg base CX0 3 f_Book_look _ ["self"] (spLook K CO CB) := ok_Book_look F_Book_look T ⟨K_Book_price_of_auction, ⟨a_Book_price_of_auction, i_Book_price_of_auction, k_Book_price_of_auction⟩, B_Book_price_of_auction⟩
  have K_Book_rest : FnOk P w K mg base CX0 3 f_Book_rest _ ["self", "order"] (spRest K CO CB) := ok_Book_rest F_Book_rest T ⟨K_place_in, PySem.W.mg_of X G a_place_in, k_place_in, B_place_in⟩ ⟨K_Book_tell, ⟨a_Book_tell, i_Book_tell, k_Book_tell⟩, B_Book_tell⟩
  have K_Book_take_out_if_empty : FnOk P w K mg base CX0 3 f_Book_take_out_if_empty _ ["self", "order"] (spTakeOutIfEmpty K CO CB) := ok_Book_take_out_if_empty F_Book_take_out_if_empty T ⟨K_Book_take_out, ⟨a_Book_take_out, i_Book_take_out, k_Book_take_out⟩, B_Book_take_out⟩
  have K_Book_take_triggered : FnOk P w K mg base CX0 3 f_Book_take_triggered _ ["self"] (spTakeTriggered K CO CB) := ok_Book_take_triggered F_Book_take_triggered T ⟨K_is_triggered, PySem.W.mg_of X G a_is_triggered, k_is_triggered, B_is_triggered⟩ ⟨K_Book_take_out, ⟨a_Book_take_out, i_Book_take_out, k_Book_take_out⟩, B_Book_take_out⟩ ⟨K_Book_tell, ⟨a_Book_tell, i_Book_tell, k_Book_tell⟩, B_Book_tell⟩
  have K_Book_trade : FnOk P w K mg base CX0 4 f_Book_trade _ ["self", "order"] (spTrade K CO CB) := ok_Book_trade F_Book_trade T ⟨K_Book_can_trade, ⟨a_Book_can_trade, i_Book_can_trade, k_Book_can_trade⟩, B_Book_can_trade⟩ ⟨K_Book_other_line, ⟨a_Book_other_line, i_Book_other_line, k_Book_other_line⟩, B_Book_other_line⟩ ⟨K_Book_take_out, ⟨a_Book_take_out, i_Book_take_out, k_Book_take_out⟩, B_Book_take_out⟩ ⟨K_Book_end, ⟨a_Book_end, i_Book_end, k_Book_end⟩, B_Book_end⟩ ⟨K_Book_exchange, ⟨a_Book_exchange, i_Book_exchange, k_Book_exchange⟩, B_Book_exchange⟩ ⟨K_Book_take_out_if_empty, ⟨a_Book_take_out_if_empty, i_Book_take_out_if_empty, k_Book_take_out_if_empty⟩, B_Book_take_out_if_empty⟩
  have K_Book_settle : FnOk P w K mg base CX0 4 f_Book_settle _ ["self", "order"] (spSettle K CO CB) := ok_Book_settle F_Book_settle T ⟨K_Book_rest, ⟨a_Book_rest, i_Book_rest, k_Book_rest⟩, B_Book_rest⟩ ⟨K_Book_end, ⟨a_Book_end, i_Book_end, k_Book_end⟩, B_Book_end⟩
  have K_Book_trade_auction : FnOk P w K mg base CX0 4 f_Book_trade_auction _ ["self"] (spTradeAuction K CO CB) := ok_Book_trade_auction F_Book_trade_auction T ⟨K_Book_price_of_auction, ⟨a_Book_price_of_auction, i_Book_price_of_auction, k_Book_price_of_auction⟩, B_Book_price_of_auction⟩ ⟨K_Book_both_accept, ⟨a_Book_both_accept, i_Book_both_accept, k_Book_both_accept⟩, B_Book_both_accept⟩ ⟨K_Book_exchange, ⟨a_Book_exchange, i_Book_exchange, k_Book_exchange⟩, B_Book_exchange⟩ ⟨K_Book_take_out_if_empty, ⟨a_Book_take_out_if_empty, i_Book_take_out_if_empty, k_Book_take_out_if_empty⟩, B_Book_take_out_if_empty⟩
  have K_Book_come : FnOk P w K mg base CX0 5 f_Book_come _ ["self", "order"] (spCome K CO CB) := ok_Book_come F_Book_come T ⟨K_Book_offered_by_others, ⟨a_Book_offered_by_others, i_Book_offered_by_others, k_Book_offered_by_others⟩, B_Book_offered_by_others⟩ ⟨K_Book_end, ⟨a_Book_end, i_Book_end, k_Book_end⟩, B_Book_end⟩ ⟨K_Book_can_trade, ⟨a_Book_can_trade, i_Book_can_trade, k_Book_can_trade⟩, B_Book_can_trade⟩ ⟨K_Book_trade, ⟨a_Book_trade, i_Book_trade, k_Book_trade⟩, B_Book_trade⟩ ⟨K_Book_settle, ⟨a_Book_settle, i_Book_settle, k_Book_settle⟩, B_Book_settle⟩
  have K_Book_trigger_stops : FnOk P w K mg base CX0 6 f_Book_trigger_stops _ ["self"] (spTriggerStops K CO CB) := ok_Book_trigger_stops F_Book_trigger_stops T ⟨K_Book_take_triggered, ⟨a_Book_take_triggered, i_Book_take_triggered, k_Book_take_triggered⟩, B_Book_take_triggered⟩ ⟨K_Book_come, ⟨a_Book_come, i_Book_come, k_Book_come⟩, B_Book_come⟩
  have K_Book_auction : FnOk P w K mg base CX0 7 f_Book_auction _ ["self", "on"] (spAuction K CO CB) := ok_Book_auction F_Book_auction T ⟨K_Book_trade_auction, ⟨a_Book_trade_auction, i_Book_trade_auction, k_Book_trade_auction⟩, B_Book_trade_auction⟩ ⟨K_Book_trigger_stops, ⟨a_Book_trigger_stops, i_Book_trigger_stops, k_Book_trigger_stops⟩, B_Book_trigger_stops⟩ ⟨K_Book_answer, ⟨a_Book_answer, i_Book_answer, k_Book_answer⟩, B_Book_answer⟩
  have K_Book_wait : FnOk P w K mg base CX0 7 f_Book_wait _ ["self", "stop"] (spWait K CO CB) := ok_Book_wait F_Book_wait T ⟨K_Book_trigger_stops, ⟨a_Book_trigger_stops, i_Book_trigger_stops, k_Book_trigger_stops⟩, B_Book_trigger_stops⟩
  have K_Book_arrive : FnOk P w K mg base CX0 8 f_Book_arrive _ ["self", "order"] (spArrive K CO CB) := ok_Book_arrive F_Book_arrive T ⟨K_Book_rest, ⟨a_Book_rest, i_Book_rest, k_Book_rest⟩, B_Book_rest⟩ ⟨K_Book_come, ⟨a_Book_come, i_Book_come, k_Book_come⟩, B_Book_come⟩ ⟨K_Book_trigger_stops, ⟨a_Book_trigger_stops, i_Book_trigger_stops, k_Book_trigger_stops⟩, B_Book_trigger_stops⟩
  have K_Book_take_order : FnOk P w K mg base CX0 9 f_Book_take_order _ ["self", "numbers"] (spTakeOrder K CO CB) := ok_Book_take_order F_Book_take_order T ⟨K_Order_init, ⟨mkO, a_Order_init, i_Order_init, kcO⟩, B_Order_init⟩ ⟨K_is_as_told, PySem.W.mg_of X G a_is_as_told, k_is_as_told, B_is_as_told⟩ ⟨K_is_stop, PySem.W.mg_of X G a_is_stop, k_is_stop, B_is_stop⟩ ⟨K_Book_wait, ⟨a_Book_wait, i_Book_wait, k_Book_wait⟩, B_Book_wait⟩ ⟨K_Book_arrive, ⟨a_Book_arrive, i_Book_arrive, k_Book_arrive⟩, B_Book_arrive⟩ ⟨K_Book_answer, ⟨a_Book_answer, i_Book_answer, k_Book_answer⟩, B_Book_answer⟩
  have K_Book_change : FnOk P w K mg base CX0 9 f_Book_change _ ["self", "number", "price", "amount"] (spChange K CO CB) := ok_Book_change F_Book_change T ⟨K_is_stop, PySem.W.mg_of X G a_is_stop, k_is_stop, B_is_stop⟩ ⟨K_is_in_range, PySem.W.mg_of X G a_is_in_range, k_is_in_range, B_is_in_range⟩ ⟨K_Book_tell, ⟨a_Book_tell, i_Book_tell, k_Book_tell⟩, B_Book_tell⟩ ⟨K_Book_take_out, ⟨a_Book_take_out, i_Book_take_out, k_Book_take_out⟩, B_Book_take_out⟩ ⟨K_Book_arrive, ⟨a_Book_arrive, i_Book_arrive, k_Book_arrive⟩, B_Book_arrive⟩ ⟨K_Book_answer, ⟨a_Book_answer, i_Book_answer, k_Book_answer⟩, B_Book_answer⟩
  have K_answer_call : FnOk P w K mg base CX0 10 f_answer_call _ ["book", "call", "numbers"] (spAnswerCall K CO CB) := ok_answer_call F_answer_call T ⟨K_Book_take_order, ⟨a_Book_take_order, i_Book_take_order, k_Book_take_order⟩, B_Book_take_order⟩ ⟨K_Book_cancel, ⟨a_Book_cancel, i_Book_cancel, k_Book_cancel⟩, B_Book_cancel⟩ ⟨K_Book_change, ⟨a_Book_change, i_Book_change, k_Book_change⟩, B_Book_change⟩ ⟨K_Book_auction, ⟨a_Book_auction, i_Book_auction, k_Book_auction⟩, B_Book_auction⟩ ⟨K_Book_look, ⟨a_Book_look, i_Book_look, k_Book_look⟩, B_Book_look⟩
  have K_answers : FnOk P w K mg base CX0 11 fa _ ["calls"] (spAnswers K CO CB) := ok_answers F_answers T ⟨K_Book_init, ⟨mkB, a_Book_init, i_Book_init, kcB⟩, B_Book_init⟩ ⟨K_answer_call, PySem.W.mg_of X G a_answer_call, k_answer_call, B_answer_call⟩
  exact K_answers
end SB
open PySem PySem.W PyProof.Rows
set_option maxRecDepth 100000 in
set_option maxHeartbeats 16000000 in
theorem PySem.Challenge.cw_stallbook_s01_answers_holds : PySem.Challenge.rw_stallbook_s01_answers.Holds := by
  w_on; k_headS; (case hw => exact ⟨[.list []], by decide +kernel, by decide +kernel⟩)
  k_fillS
  refine L2.walk_specK (r := PySem.Challenge.rw_stallbook_s01_answers) (k := 11) (CX := L2.CX0) (ps := ["calls"]) (sp := fun K => SB.spAnswers K 0 0) (by decide +kernel) rfl rfl ⟨rfl, by decide, by decide⟩ (fun w h Y => PySem.W.kIn_of Y) ?F ?S (fun _ _ _ _ z => z)
  case F =>
    intro w mg fa h Y KX G hmg
    refine' SB.all_mk KX G hmg ?aO ?aB ?a_Order_init ?i_Order_init ?l_Order_init ?c_Order_init ?k_Order_init ?a_has_price ?l_has_price ?c_has_price ?k_has_price ?a_is_stop ?l_is_stop ?c_is_stop ?k_is_stop ?a_is_in_range ?l_is_in_range ?c_is_in_range ?k_is_in_range ?a_is_as_told ?l_is_as_told ?c_is_as_told ?k_is_as_told ?a_accepts ?l_accepts ?c_accepts ?k_accepts ?a_is_triggered ?l_is_triggered ?c_is_triggered ?k_is_triggered ?a_is_better ?l_is_better ?c_is_better ?k_is_better ?a_place_in ?l_place_in ?c_place_in ?k_place_in ?a_auction_price ?l_auction_price ?c_auction_price ?k_auction_price ?a_Book_init ?i_Book_init ?l_Book_init ?c_Book_init ?k_Book_init ?a_Book_take_order ?i_Book_take_order ?l_Book_take_order ?c_Book_take_order ?k_Book_take_order ?a_Book_cancel ?i_Book_cancel ?l_Book_cancel ?c_Book_cancel ?k_Book_cancel ?a_Book_change ?i_Book_change ?l_Book_change ?c_Book_change ?k_Book_change ?a_Book_auction ?i_Book_auction ?l_Book_auction ?c_Book_auction ?k_Book_auction ?a_Book_look ?i_Book_look ?l_Book_look ?c_Book_look ?k_Book_look ?a_Book_tell ?i_Book_tell ?l_Book_tell ?c_Book_tell ?k_Book_tell ?a_Book_answer ?i_Book_answer ?l_Book_answer ?c_Book_answer ?k_Book_answer ?a_Book_end ?i_Book_end ?l_Book_end ?c_Book_end ?k_Book_end ?a_Book_rest ?i_Book_rest ?l_Book_rest ?c_Book_rest ?k_Book_rest ?a_Book_take_out ?i_Book_take_out ?l_Book_take_out ?c_Book_take_out ?k_Book_take_out ?a_Book_take_out_if_empty ?i_Book_take_out_if_empty ?l_Book_take_out_if_empty ?c_Book_take_out_if_empty ?k_Book_take_out_if_empty ?a_Book_wait ?i_Book_wait ?l_Book_wait ?c_Book_wait ?k_Book_wait ?a_Book_arrive ?i_Book_arrive ?l_Book_arrive ?c_Book_arrive ?k_Book_arrive ?a_Book_come ?i_Book_come ?l_Book_come ?c_Book_come ?k_Book_come ?a_Book_other_line ?i_Book_other_line ?l_Book_other_line ?c_Book_other_line ?k_Book_other_line ?a_Book_can_trade ?i_Book_can_trade ?l_Book_can_trade ?c_Book_can_trade ?k_Book_can_trade ?a_Book_offered_by_others ?i_Book_offered_by_others ?l_Book_offered_by_others ?c_Book_offered_by_others ?k_Book_offered_by_others ?a_Book_trade ?i_Book_trade ?l_Book_trade ?c_Book_trade ?k_Book_trade ?a_Book_exchange ?i_Book_exchange ?l_Book_exchange ?c_Book_exchange ?k_Book_exchange ?a_Book_settle ?i_Book_settle ?l_Book_settle ?c_Book_settle ?k_Book_settle ?a_Book_trigger_stops ?i_Book_trigger_stops ?l_Book_trigger_stops ?c_Book_trigger_stops ?k_Book_trigger_stops ?a_Book_take_triggered ?i_Book_take_triggered ?l_Book_take_triggered ?c_Book_take_triggered ?k_Book_take_triggered ?a_Book_price_of_auction ?i_Book_price_of_auction ?l_Book_price_of_auction ?c_Book_price_of_auction ?k_Book_price_of_auction ?a_Book_trade_auction ?i_Book_trade_auction ?l_Book_trade_auction ?c_Book_trade_auction ?k_Book_trade_auction ?a_Book_both_accept ?i_Book_both_accept ?l_Book_both_accept ?c_Book_both_accept ?k_Book_both_accept ?a_answer_call ?l_answer_call ?c_answer_call ?k_answer_call ?a_answers ?l_answers ?c_answers ?k_answers ?pgO ?hdO ?poO ?saO ?mkO ?kcO ?pgB ?hdB ?poB ?saB ?mkB ?kcB ?mroO ?eqO ?nO_number ?nO_who ?nO_side ?nO_kind ?nO_price ?nO_amount ?nO_trigger ?nB_lines ?nB_waiting ?nB_known ?nB_latest ?nB_in_auction ?nB_events ?v_ORDER ?v_CANCEL ?v_CHANGE ?v_AUCTION ?v_BUYS ?v_SELLS ?v_LIMIT ?v_MARKET ?v_ALL_AT_ONCE ?v_ONLY_TO_REST ?v_STOP ?v_STOP_WITH_LIMIT ?v_TRADED ?v_RESTS ?v_ENDED ?v_TRIGGERED ?v_NUMBERS_OF_AN_EVENT ?v_CANCELLED ?v_NOT_TRADED ?v_TOO_LITTLE ?v_WOULD_TRADE ?v_SAME_PERSON ?v_LARGEST_PERSON ?v_LARGEST ?v_MOST_ORDERS ?b_len ?b_sum ?b_sorted ?b_set ?b_abs ?b_min ?hH ?lH ?tH ?zH ?vH
    (case aO => k_is)
    (case aB => k_is)
    (case a_Order_init => k_is)
    (case i_Order_init => k_is)
    (case l_Order_init => k_is)
    (case c_Order_init => k_is)
    (case k_Order_init => k_is)
    (case a_has_price => k_is)
    (case l_has_price => k_is)
    (case c_has_price => k_is)
    (case k_has_price => k_is)
    (case a_is_stop => k_is)
    (case l_is_stop => k_is)
    (case c_is_stop => k_is)
    (case k_is_stop => k_is)
    (case a_is_in_range => k_is)
    (case l_is_in_range => k_is)
    (case c_is_in_range => k_is)
    (case k_is_in_range => k_is)
    (case a_is_as_told => k_is)
    (case l_is_as_told => k_is)
    (case c_is_as_told => k_is)
    (case k_is_as_told => k_is)
    (case a_accepts => k_is)
    (case l_accepts => k_is)
    (case c_accepts => k_is)
    (case k_accepts => k_is)
    (case a_is_triggered => k_is)
    (case l_is_triggered => k_is)
    (case c_is_triggered => k_is)
    (case k_is_triggered => k_is)
    (case a_is_better => k_is)
    (case l_is_better => k_is)
    (case c_is_better => k_is)
    (case k_is_better => k_is)
    (case a_place_in => k_is)
    (case l_place_in => k_is)
    (case c_place_in => k_is)
    (case k_place_in => k_is)
    (case a_auction_price => k_is)
    (case l_auction_price => k_is)
    (case c_auction_price => k_is)
    (case k_auction_price => k_is)
    (case a_Book_init => k_is)
    (case i_Book_init => k_is)
    (case l_Book_init => k_is)
    (case c_Book_init => k_is)
    (case k_Book_init => k_is)
    (case a_Book_take_order => k_is)
    (case i_Book_take_order => k_is)
    (case l_Book_take_order => k_is)
    (case c_Book_take_order => k_is)
    (case k_Book_take_order => k_is)
    (case a_Book_cancel => k_is)
    (case i_Book_cancel => k_is)
    (case l_Book_cancel => k_is)
    (case c_Book_cancel => k_is)
    (case k_Book_cancel => k_is)
    (case a_Book_change => k_is)
    (case i_Book_change => k_is)
    (case l_Book_change => k_is)
    (case c_Book_change => k_is)
    (case k_Book_change => k_is)
    (case a_Book_auction => k_is)
    (case i_Book_auction => k_is)
    (case l_Book_auction => k_is)
    (case c_Book_auction => k_is)
    (case k_Book_auction => k_is)
    (case a_Book_look => k_is)
    (case i_Book_look => k_is)
    (case l_Book_look => k_is)
    (case c_Book_look => k_is)
    (case k_Book_look => k_is)
    (case a_Book_tell => k_is)
    (case i_Book_tell => k_is)
    (case l_Book_tell => k_is)
    (case c_Book_tell => k_is)
    (case k_Book_tell => k_is)
    (case a_Book_answer => k_is)
    (case i_Book_answer => k_is)
    (case l_Book_answer => k_is)
    (case c_Book_answer => k_is)
    (case k_Book_answer => k_is)
    (case a_Book_end => k_is)
    (case i_Book_end => k_is)
    (case l_Book_end => k_is)
    (case c_Book_end => k_is)
    (case k_Book_end => k_is)
    (case a_Book_rest => k_is)
    (case i_Book_rest => k_is)
    (case l_Book_rest => k_is)
    (case c_Book_rest => k_is)
    (case k_Book_rest => k_is)
    (case a_Book_take_out => k_is)
    (case i_Book_take_out => k_is)
    (case l_Book_take_out => k_is)
    (case c_Book_take_out => k_is)
    (case k_Book_take_out => k_is)
    (case a_Book_take_out_if_empty => k_is)
    (case i_Book_take_out_if_empty => k_is)
    (case l_Book_take_out_if_empty => k_is)
    (case c_Book_take_out_if_empty => k_is)
    (case k_Book_take_out_if_empty => k_is)
    (case a_Book_wait => k_is)
    (case i_Book_wait => k_is)
    (case l_Book_wait => k_is)
    (case c_Book_wait => k_is)
    (case k_Book_wait => k_is)
    (case a_Book_arrive => k_is)
    (case i_Book_arrive => k_is)
    (case l_Book_arrive => k_is)
    (case c_Book_arrive => k_is)
    (case k_Book_arrive => k_is)
    (case a_Book_come => k_is)
    (case i_Book_come => k_is)
    (case l_Book_come => k_is)
    (case c_Book_come => k_is)
    (case k_Book_come => k_is)
    (case a_Book_other_line => k_is)
    (case i_Book_other_line => k_is)
    (case l_Book_other_line => k_is)
    (case c_Book_other_line => k_is)
    (case k_Book_other_line => k_is)
    (case a_Book_can_trade => k_is)
    (case i_Book_can_trade => k_is)
    (case l_Book_can_trade => k_is)
    (case c_Book_can_trade => k_is)
    (case k_Book_can_trade => k_is)
    (case a_Book_offered_by_others => k_is)
    (case i_Book_offered_by_others => k_is)
    (case l_Book_offered_by_others => k_is)
    (case c_Book_offered_by_others => k_is)
    (case k_Book_offered_by_others => k_is)
    (case a_Book_trade => k_is)
    (case i_Book_trade => k_is)
    (case l_Book_trade => k_is)
    (case c_Book_trade => k_is)
    (case k_Book_trade => k_is)
    (case a_Book_exchange => k_is)
    (case i_Book_exchange => k_is)
    (case l_Book_exchange => k_is)
    (case c_Book_exchange => k_is)
    (case k_Book_exchange => k_is)
    (case a_Book_settle => k_is)
    (case i_Book_settle => k_is)
    (case l_Book_settle => k_is)
    (case c_Book_settle => k_is)
    (case k_Book_settle => k_is)
    (case a_Book_trigger_stops => k_is)
    (case i_Book_trigger_stops => k_is)
    (case l_Book_trigger_stops => k_is)
    (case c_Book_trigger_stops => k_is)
    (case k_Book_trigger_stops => k_is)
    (case a_Book_take_triggered => k_is)
    (case i_Book_take_triggered => k_is)
    (case l_Book_take_triggered => k_is)
    (case c_Book_take_triggered => k_is)
    (case k_Book_take_triggered => k_is)
    (case a_Book_price_of_auction => k_is)
    (case i_Book_price_of_auction => k_is)
    (case l_Book_price_of_auction => k_is)
    (case c_Book_price_of_auction => k_is)
    (case k_Book_price_of_auction => k_is)
    (case a_Book_trade_auction => k_is)
    (case i_Book_trade_auction => k_is)
    (case l_Book_trade_auction => k_is)
    (case c_Book_trade_auction => k_is)
    (case k_Book_trade_auction => k_is)
    (case a_Book_both_accept => k_is)
    (case i_Book_both_accept => k_is)
    (case l_Book_both_accept => k_is)
    (case c_Book_both_accept => k_is)
    (case k_Book_both_accept => k_is)
    (case a_answer_call => k_is)
    (case l_answer_call => k_is)
    (case c_answer_call => k_is)
    (case k_answer_call => k_is)
    (case a_answers => k_is)
    (case l_answers => k_is)
    (case c_answers => k_is)
    (case k_answers => k_is)
    (case pgO => k_is)
    (case hdO => k_is)
    (case poO => k_is)
    (case saO => k_is)
    (case mkO => k_is)
    (case kcO => k_is)
    (case pgB => k_is)
    (case hdB => k_is)
    (case poB => k_is)
    (case saB => k_is)
    (case mkB => k_is)
    (case kcB => k_is)
    (case mroO => k_is)
    (case eqO => k_is)
    (case nO_number => k_is)
    (case nO_who => k_is)
    (case nO_side => k_is)
    (case nO_kind => k_is)
    (case nO_price => k_is)
    (case nO_amount => k_is)
    (case nO_trigger => k_is)
    (case nB_lines => k_is)
    (case nB_waiting => k_is)
    (case nB_known => k_is)
    (case nB_latest => k_is)
    (case nB_in_auction => k_is)
    (case nB_events => k_is)
    (case v_ORDER => k_is)
    (case v_CANCEL => k_is)
    (case v_CHANGE => k_is)
    (case v_AUCTION => k_is)
    (case v_BUYS => k_is)
    (case v_SELLS => k_is)
    (case v_LIMIT => k_is)
    (case v_MARKET => k_is)
    (case v_ALL_AT_ONCE => k_is)
    (case v_ONLY_TO_REST => k_is)
    (case v_STOP => k_is)
    (case v_STOP_WITH_LIMIT => k_is)
    (case v_TRADED => k_is)
    (case v_RESTS => k_is)
    (case v_ENDED => k_is)
    (case v_TRIGGERED => k_is)
    (case v_NUMBERS_OF_AN_EVENT => k_is)
    (case v_CANCELLED => k_is)
    (case v_NOT_TRADED => k_is)
    (case v_TOO_LITTLE => k_is)
    (case v_WOULD_TRADE => k_is)
    (case v_SAME_PERSON => k_is)
    (case v_LARGEST_PERSON => k_is)
    (case v_LARGEST => k_is)
    (case v_MOST_ORDERS => k_is)
    (case b_len => k_is)
    (case b_sum => k_is)
    (case b_sorted => k_is)
    (case b_set => k_is)
    (case b_abs => k_is)
    (case b_min => k_is)
    (case hH => k_is)
    (case lH => k_is)
    (case tH => rfl)
    (case zH => exact SB.bigL (by show 6 ≤ 16000000; omega))
    (case vH => exact .cons ⟨_, rfl⟩ (.cons ⟨_, rfl⟩ (.cons ⟨_, rfl⟩ (.cons ⟨_, rfl⟩ (.cons ⟨_, rfl⟩ (.cons ⟨_, rfl⟩ .nil))))))
  case S =>
    intro K H xs a hO hwi hask hx
    cases hx with
    | cons h1 h2 =>
      cases h2
      cases h1 with
      | lst hs ha =>
        have e := L2.ints_dw a.1 _ ha
        subst e
        obtain ⟨raw, e1, forms, e2, hlen⟩ := SB.asked_raw (l := a.1) hask
        have fz : ∀ b o, H b = some o → ∃ x u, o = L2.HO.frz x u := fun b o hb => by
          rcases hO b with h | ⟨x, u, h⟩
          · rw [h] at hb
            cases hb
          · rw [h] at hb
            cases hb
            exact ⟨x, u, rfl⟩
        refine ⟨_, raw, rfl, ?_, fz, forms, hlen, fun H' p hp => ?_⟩
        · rw [← e1]
          exact hs
        · rw [← e2] at hp
          exact .lst (L2.SqL.of hp) (L2.dw_ints _)
