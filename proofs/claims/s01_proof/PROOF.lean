import PyProof.Rows.All
import Wide.All
import OpenK.AllK
import Wide.FinOn
import Open.SpecLaws
import KE.OsGo
import HandS.ForSpec
import HandS.ForMost
import HandS.Flow
import HandS.SortInts
import HandS.Set
import HandS.Strs
import HandS.More
import HandS.TupSets
import HandS.IsInst
import HandS.Walk
import HandS.Head4
import HandS.HeadHook2
import HandS.HeadHook4
import PyVbwsah
import PyProof.SeqIndex
import HandS.SortKw
import HandS.Wide
import HandS.Steps
import HandS.SortRule
import HandS.Spec
import PySem.Challenge.RW_mirrornet_s01_answers
set_option Elab.async false
set_option maxRecDepth 100000
set_option maxHeartbeats 2000000
namespace MN
open PySem PySem.Spec PyProof.Rows L2
/-! a module's constants, defs, classes by what is known of them -/
def GC (mg : Str → Option Value) (x : Str) (v : V) : Prop := ∃ u, mg x = some u ∧ RelV v u
theorem pe_gc {X : Cx} {x : Str} {pos : Pos} {v : V} (h : GC X.mg x v) (hg : Gl X x := by rfl) (hd : (x == ("__debug__" : Str)) = false := by decide) : PE X (.Name x pos) (tC v) := by
  obtain ⟨u, e, r⟩ := h
  exact pe_glob hg e r hd
/-- a def of the text -/
def HasF (K : PySem.W.Frag) (mg : Str → Option Value) (x : Str) (st : Stmt) (ps : List Str) : Prop := ∃ f fd, Fun K x x st f fd ∧ mg x = some (.ref f) ∧ Binds K fd ps []
/-- a method of the text -/
def HasM (K : PySem.W.Frag) (C : Addr) (m qual : Str) (st : Stmt) (ps : List Str) : Prop := ∃ f fd, Fun K m qual st f fd ∧ Meth K C m f ∧ Binds K fd ps []
/-- a class with its __init__ -/
def HasC (K : PySem.W.Frag) (mg : Str → Option Value) (C : Addr) (x qual : Str) (st : Stmt) (ps : List Str) : Prop := ∃ f fd, Fun K "__init__" qual st f fd ∧ mg x = some (.ref C) ∧ Mk K C f ∧ Binds K fd ps []
section
variable (P : Program) (w : World) (K : PySem.W.Frag) (mg : Str → Option Value) (base : Heap)
def DefOk (k : Nat) (x : Str) (ps : List Str) (sp : Sp) : Prop := ∃ f fd, FnOk P w K mg base CX0 k f fd ps sp ∧ mg x = some (.ref f) ∧ PySem.W.keepIn K (.ref f) = true ∧ Binds K fd ps []
def MethOk (C : Addr) (k : Nat) (m : Str) (ps : List Str) (sp : Sp) : Prop := ∃ f fd, FnOk P w K mg base CX0 k f fd ps sp ∧ Meth K C m f ∧ Binds K fd ps []
def MakeOk (C : Addr) (k : Nat) (x : Str) (ps : List Str) (sp : Sp) : Prop := ∃ f fd, FnOk P w K mg base CX0 k f fd ps sp ∧ mg x = some (.ref C) ∧ Mk K C f ∧ Binds K fd ps []
end
section
variable {P : Program} {w : World} {K : PySem.W.Frag} {mg : Str → Option Value} {base : Heap}
theorem HasF.ok {x : Str} {st : Stmt} {N ps : List Str} {k : Nat} {sp : Sp} (F : HasF K mg x st ps) (S : FnScope N ps (defScope st)) (len : ∀ vs H Q E, sp vs H Q E → vs.length = ps.length)
    (hbody : ∀ (f : Addr) (cdv : Value) (A : Around) (outer : List Env) (s : Shared) (H : Hp) (vs : List V) (Q : VK) (E : XK), Room k (A.deeper (envOfC x (defScope st) s.heap.objs.size f cdv)) → sp vs H Q E →
      ∃ t, PSs (cxOf CX0 P w K mg base N x (defScope st) f cdv A outer s H E).nox (defBody st) t ∧ t { nx := fun _ H' => Q .non H', rt := Q } (start N vs) H) : DefOk P w K mg base (k + 1) x ps sp := by
  obtain ⟨f, fd, h, m, b⟩ := F
  exact ⟨f, fd, h.ok S len (hbody f), m, h.kp, b⟩
theorem HasM.ok {C : Addr} {m qual : Str} {st : Stmt} {N ps : List Str} {k : Nat} {sp : Sp} (F : HasM K C m qual st ps) (S : FnScope N ps (defScope st)) (len : ∀ vs H Q E, sp vs H Q E → vs.length = ps.length)
    (hbody : ∀ (f : Addr) (cdv : Value) (A : Around) (outer : List Env) (s : Shared) (H : Hp) (vs : List V) (Q : VK) (E : XK), Room k (A.deeper (envOfC qual (defScope st) s.heap.objs.size f cdv)) → sp vs H Q E →
      ∃ t, PSs (cxOf CX0 P w K mg base N qual (defScope st) f cdv A outer s H E).nox (defBody st) t ∧ t { nx := fun _ H' => Q .non H', rt := Q } (start N vs) H) : MethOk P w K mg base C (k + 1) m ps sp := by
  obtain ⟨f, fd, h, q, b⟩ := F
  exact ⟨f, fd, h.ok S len (hbody f), q, b⟩
theorem HasC.ok {C : Addr} {x qual : Str} {st : Stmt} {N ps : List Str} {k : Nat} {sp : Sp} (F : HasC K mg C x qual st ps) (S : FnScope N ps (defScope st)) (len : ∀ vs H Q E, sp vs H Q E → vs.length = ps.length)
    (hbody : ∀ (f : Addr) (cdv : Value) (A : Around) (outer : List Env) (s : Shared) (H : Hp) (vs : List V) (Q : VK) (E : XK), Room k (A.deeper (envOfC qual (defScope st) s.heap.objs.size f cdv)) → sp vs H Q E →
      ∃ t, PSs (cxOf CX0 P w K mg base N qual (defScope st) f cdv A outer s H E).nox (defBody st) t ∧ t { nx := fun _ H' => Q .non H', rt := Q } (start N vs) H) : MakeOk P w K mg base C (k + 1) x ps sp := by
  obtain ⟨f, fd, h, g, q, b⟩ := F
  exact ⟨f, fd, h.ok S len (hbody f), g, q, b⟩
end
section
variable {X : Cx} {k : Nat} {C : Addr} {ps : List Str} {sp : Sp} {x m : Str} {p pos apos : Pos} {e o : Expr} {es : List Expr} {ta : TE} {t : TA}
theorem pe_def (F : DefOk X.prog X.w X.K X.mg X.base k x ps sp) {j : Nat} (hr : Room j X.A) (ha : PA X (e :: es) t) (hj : k ≤ j := by decide) (hg : Gl X x := by rfl) (hdb : (x == ("__debug__" : Str)) = false := by decide) (he : starEach (e :: es) X.env = (false, eval e X.env) :: starEach es X.env := by rfl)
    (hpl : (backTo pos (starEach es X.env)).any (·.1) = false := by rfl) : PE X (.Call (.Name x p) (e :: es) [] pos) (tCall sp [] E0 t) := by
  obtain ⟨f, fd, F, g, kp, b⟩ := F
  exact pe_call F (hr.mono hj) hg g kp b .nil pass0 ha hdb he hpl
theorem pe_m {pl : Sem Bool} (F : MethOk X.prog X.w X.K X.mg X.base C k m ps sp) (c : Cls X.K C) {j : Nat} (hr : Room j X.A) (ho : PE X o ta) (ha : PA X (e :: es) t) (hj : k ≤ j := by decide)
    (hst : starEach (e :: es) X.env = (false, eval e X.env) :: starEach es X.env := by rfl) (hpl : (backTo pos (starEach es X.env)).any (·.1) = false := by rfl)
    (ht : eval (.Call (.Attribute o m apos) (e :: es) [] pos) X.env = (do
      let ov ← eval o X.env
      standAt apos.atName
      let (f, first) ← holding [ov] (getMethod ov m pl)
      callWith pos f first (backTo pos (starEach (e :: es) X.env)) (backToKw pos (keywordEach [] X.env))) := by rfl) :
    PE X (.Call (.Attribute o m apos) (e :: es) [] pos) (tMeth C m sp [] E0 ta t) := by
  obtain ⟨f, fd, F, q, b⟩ := F
  exact pe_meth ho c q F (hr.mono hj) b .nil pass0 ha hst hpl ht
theorem pe_m0 {pl : Sem Bool} (F : MethOk X.prog X.w X.K X.mg X.base C k m ps sp) (c : Cls X.K C) {j : Nat} (hr : Room j X.A) (ho : PE X o ta) (hj : k ≤ j := by decide)
    (ht : eval (.Call (.Attribute o m apos) [] [] pos) X.env = (do
      let ov ← eval o X.env
      standAt apos.atName
      let (f, first) ← holding [ov] (getMethod ov m pl)
      callWith pos f first (backTo pos (starEach [] X.env)) (backToKw pos (keywordEach [] X.env))) := by rfl) :
    PE X (.Call (.Attribute o m apos) [] [] pos) (tMeth C m sp [] E0 ta tNil) := by
  obtain ⟨f, fd, F, q, b⟩ := F
  exact pe_meth0 ho c q F (hr.mono hj) b .nil pass0 ht
theorem pe_new (F : MakeOk X.prog X.w X.K X.mg X.base C k x ps sp) {j : Nat} (hr : Room j X.A) (ha : PA X (e :: es) t) (hj : k + 1 ≤ j := by decide) (hg : Gl X x := by rfl) (hdb : (x == ("__debug__" : Str)) = false := by decide) (he : starEach (e :: es) X.env = (false, eval e X.env) :: starEach es X.env := by rfl)
    (hpl : (backTo pos (starEach es X.env)).any (·.1) = false := by rfl) : PE X (.Call (.Name x p) (e :: es) [] pos) (tMake C sp [] E0 t) := by
  obtain ⟨f, fd, F, g, M, b⟩ := F
  exact pe_make M F (hr.mono hj) hg g b .nil pass0 ha hdb he hpl
theorem pe_new0 (F : MakeOk X.prog X.w X.K X.mg X.base C k x ps sp) {j : Nat} (hr : Room j X.A) (hj : k + 1 ≤ j := by decide) (hg : Gl X x := by rfl) (hdb : (x == ("__debug__" : Str)) = false := by decide) : PE X (.Call (.Name x p) [] [] pos) (tMake C sp [] E0 tNil) := by
  obtain ⟨f, fd, F, g, M, b⟩ := F
  exact pe_make0 M F (hr.mono hj) hg g b .nil pass0 hdb
end
end MN
set_option Elab.async false
set_option maxRecDepth 100000
set_option maxHeartbeats 2000000
namespace MN
open PySem PySem.Spec PyProof.Rows L2
def top (i : Nat) : Stmt := PySem.Challenge.pw_mirrornet_s01_answers.main.body.getD i (.Pass ⟨0, 0, 0, 0⟩)
/-- what isinstance asks of a class -/
def TyI (K : PySem.W.Frag) (C : Addr) : Prop := PySem.W.findIn K (.ref C) "__class__" = some (some (.builtin "object.__class__")) ∧ PySem.W.specialIn K (.builtin "object.__class__") "__get__" = some (some (.builtin "getset_descriptor.__get__")) ∧ PySem.W.takesIn K (.builtin "object.__class__") = some true ∧
  PySem.W.mroIn K C (.type "object") = some true
abbrev s_is_time : Stmt := top 4
abbrev s_Between___init__ : Stmt := inClass (top 5) 0
abbrev s_Between_upper_number : Stmt := inClass (top 5) 1
abbrev s_shown_value : Stmt := top 6
abbrev s_value_in_first : Stmt := top 7
abbrev s_value_between : Stmt := top 8
abbrev s_is_body_number : Stmt := top 16
abbrev s_is_body_key : Stmt := top 17
abbrev s_body_of_key : Stmt := top 18
abbrev s_is_place : Stmt := top 19
abbrev s_is_speed : Stmt := top 20
abbrev s_is_push : Stmt := top 21
abbrev s_fits_body_key : Stmt := top 22
abbrev s_followed_key : Stmt := top 23
abbrev s_has_body : Stmt := top 24
abbrev s_put_body : Stmt := top 25
abbrev s_body_values : Stmt := top 26
abbrev s_follow_axis : Stmt := top 27
abbrev s_follow : Stmt := top 28
abbrev s_greatest_divisor : Stmt := top 30
abbrev s_least_terms : Stmt := top 31
abbrev s_is_clock_time : Stmt := top 36
abbrev s_is_drift : Stmt := top 37
abbrev s_Bounds___init__ : Stmt := inClass (top 38) 0
abbrev s_Bounds_later : Stmt := inClass (top 38) 1
abbrev s_Bounds_told : Stmt := inClass (top 38) 2
abbrev s_bounds_of_exchange : Stmt := top 39
abbrev s_both_together : Stmt := top 40
abbrev s_Down___init__ : Stmt := inClass (top 42) 0
abbrev s_Up___init__ : Stmt := inClass (top 43) 0
abbrev s_changes_between : Stmt := top 45
abbrev s_put_changes : Stmt := top 46
abbrev s_listed : Stmt := top 47
abbrev s_keep_world : Stmt := top 48
abbrev s_Client___init__ : Stmt := inClass (top 52) 0
abbrev s_Client_is_full : Stmt := inClass (top 52) 1
abbrev s_Client_make_input : Stmt := inClass (top 52) 2
abbrev s_Client_make_up : Stmt := inClass (top 52) 3
abbrev s_Client_take_down : Stmt := inClass (top 52) 4
abbrev s_Client_world_of : Stmt := inClass (top 52) 5
abbrev s_Client_last_world : Stmt := inClass (top 52) 6
abbrev s_Client_guess : Stmt := inClass (top 52) 7
abbrev s_Client_knows_later_than : Stmt := inClass (top 52) 8
abbrev s_Client_learn_bounds : Stmt := inClass (top 52) 9
abbrev s_Client_forget_inputs : Stmt := inClass (top 52) 10
abbrev s_Peer___init__ : Stmt := inClass (top 56) 0
abbrev s_Peer_make_down : Stmt := inClass (top 56) 1
abbrev s_Peer_choose_base : Stmt := inClass (top 56) 2
abbrev s_Peer_take_up : Stmt := inClass (top 56) 3
abbrev s_Peer_follow_waiting : Stmt := inClass (top 56) 4
abbrev s_Net___init__ : Stmt := inClass (top 62) 0
abbrev s_Net_clients_full : Stmt := inClass (top 62) 1
abbrev s_Net_packets_full : Stmt := inClass (top 62) 2
abbrev s_Net_body_is_taken : Stmt := inClass (top 62) 3
abbrev s_Net_some_clock_is_known : Stmt := inClass (top 62) 4
abbrev s_Net_add_client : Stmt := inClass (top 62) 5
abbrev s_Net_followed_by : Stmt := inClass (top 62) 6
abbrev s_Net_advance : Stmt := inClass (top 62) 7
abbrev s_Net_add_packet : Stmt := inClass (top 62) 8
abbrev s_is_direction : Stmt := top 75
abbrev s_Shot___init__ : Stmt := inClass (top 76) 0
abbrev s_Shot_way_to : Stmt := inClass (top 76) 1
abbrev s_Shot_meets : Stmt := inClass (top 76) 2
abbrev s_tell_base : Stmt := top 79
abbrev s_tell_guess : Stmt := top 80
abbrev s_render : Stmt := top 81
abbrev s_are_ticks_around : Stmt := top 82
abbrev s_judge_shot : Stmt := top 83
abbrev s_tell_ring : Stmt := top 84
abbrev s_exchange : Stmt := top 86
abbrev s_tell_offset : Stmt := top 87
abbrev s_set_drift : Stmt := top 88
abbrev s_send_down : Stmt := top 90
abbrev s_send_up : Stmt := top 91
abbrev s_deliver : Stmt := top 92
abbrev s_add_input : Stmt := top 93
abbrev s_tell_packet : Stmt := top 94
abbrev s_told_down : Stmt := top 95
abbrev s_told_value : Stmt := top 96
abbrev s_told_up : Stmt := top 97
abbrev s_is_free_key : Stmt := top 103
abbrev s_make_body : Stmt := top 104
abbrev s_make_client : Stmt := top 105
abbrev s_set_key : Stmt := top 106
abbrev s_unset_key : Stmt := top 107
abbrev s_run_tick : Stmt := top 108
abbrev s_tell_world : Stmt := top 109
abbrev s_tell_counts : Stmt := top 110
abbrev s_answer_call : Stmt := top 113
abbrev s_answer_first_ten : Stmt := top 114
abbrev s_answer_last_ten : Stmt := top 115
abbrev s_answers : Stmt := top 116
/-- the addresses of the classes -/
structure Cs where
  Between : Addr
  Bounds : Addr
  Down : Addr
  Up : Addr
  Client : Addr
  Peer : Addr
  Net : Addr
  Shot : Addr
structure Txt (K : PySem.W.Frag) (mg : Str → Option Value) (Z : Cs) : Prop where
  c_GREATEST_UPPER : GC mg "GREATEST_UPPER" (.int (1000000))
  c_GREATEST_LOWER : GC mg "GREATEST_LOWER" (.int (1000))
  c_MOST_TICKS_BEYOND : GC mg "MOST_TICKS_BEYOND" (.int (3))
  c_BODIES : GC mg "BODIES" (.int (8))
  c_KEYS_OF_A_BODY : GC mg "KEYS_OF_A_BODY" (.int (4))
  c_FIRST_FOLLOWED_KEY : GC mg "FIRST_FOLLOWED_KEY" (.int (1000))
  c_FURTHEST : GC mg "FURTHEST" (.int (1000))
  c_FASTEST : GC mg "FASTEST" (.int (20))
  c_STRONGEST : GC mg "STRONGEST" (.int (3))
  c_GREATEST_TIME : GC mg "GREATEST_TIME" (.int (1000000000))
  c_GREATEST_DRIFT : GC mg "GREATEST_DRIFT" (.int (500))
  c_PARTS : GC mg "PARTS" (.int (1000))
  c_MOST_WORLDS : GC mg "MOST_WORLDS" (.int (16))
  c_MOST_INPUTS : GC mg "MOST_INPUTS" (.int (64))
  c_MOST_SENT : GC mg "MOST_SENT" (.int (16))
  c_MOST_FOLLOWED_A_TICK : GC mg "MOST_FOLLOWED_A_TICK" (.int (4))
  c_GREATEST_TICK : GC mg "GREATEST_TICK" (.int (10000))
  c_MOST_KEPT : GC mg "MOST_KEPT" (.int (64))
  c_MOST_CLIENTS : GC mg "MOST_CLIENTS" (.int (4))
  c_MOST_PACKETS : GC mg "MOST_PACKETS" (.int (200))
  c_NO_SUCH : GC mg "NO_SUCH" (.int (-1))
  c_OUT_OF_RANGE : GC mg "OUT_OF_RANGE" (.int (-2))
  c_TAKEN : GC mg "TAKEN" (.int (-3))
  c_FULL : GC mg "FULL" (.int (-4))
  c_LAST_TICK : GC mg "LAST_TICK" (.int (-5))
  c_NO_TICK_YET : GC mg "NO_TICK_YET" (.int (-6))
  c_NOTHING_SHOWN : GC mg "NOTHING_SHOWN" (.int (-7))
  c_NOT_KEPT : GC mg "NOT_KEPT" (.int (-8))
  c_NOTHING_KNOWN : GC mg "NOTHING_KNOWN" (.int (-9))
  c_GREATEST_STEP : GC mg "GREATEST_STEP" (.int (1000))
  c_GREATEST_SQUARED_DISTANCE : GC mg "GREATEST_SQUARED_DISTANCE" (.int (25))
  c_GREATEST_KEY : GC mg "GREATEST_KEY" (.int (4095))
  c_GREATEST_CLIENT : GC mg "GREATEST_CLIENT" (.int (9))
  c_FIRST_FREE_KEY : GC mg "FIRST_FREE_KEY" (.int (2000))
  c_LAST_FREE_KEY : GC mg "LAST_FREE_KEY" (.int (2063))
  c_GREATEST_FREE_VALUE : GC mg "GREATEST_FREE_VALUE" (.int (1000000))
  c_ARGUMENTS : ∃ p, mg "ARGUMENTS" = some (.ref p) ∧ SqT K (fun _ => none) p ([.int 5, .int 2, .int 2, .int 1, .int 0, .int 1, .int 1, .int 1, .int 3, .int 0, .int 1, .int 1, .int 4, .int 7, .int 4, .int 2, .int 1, .int 1, .int 0, .int 1])
  n_abs : mg "abs" = none
  n_any : mg "any" = none
  n_dict : mg "dict" = none
  n_isinstance : mg "isinstance" = none
  n_len : mg "len" = none
  n_list : mg "list" = none
  n_max : mg "max" = none
  n_min : mg "min" = none
  n_range : mg "range" = none
  n_set : mg "set" = none
  n_sorted : mg "sorted" = none
  cl_Between : Cls K Z.Between
  na_Between_before : NoAttr K Z.Between "before"
  na_Between_after : NoAttr K Z.Between "after"
  na_Between_lower_number : NoAttr K Z.Between "lower_number"
  na_Between_passed : NoAttr K Z.Between "passed"
  cl_Bounds : Cls K Z.Bounds
  na_Bounds_time : NoAttr K Z.Bounds "time"
  na_Bounds_lo : NoAttr K Z.Bounds "lo"
  na_Bounds_hi : NoAttr K Z.Bounds "hi"
  cl_Down : Cls K Z.Down
  na_Down_client : NoAttr K Z.Down "client"
  na_Down_tick : NoAttr K Z.Down "tick"
  na_Down_base : NoAttr K Z.Down "base"
  na_Down_changes : NoAttr K Z.Down "changes"
  cl_Up : Cls K Z.Up
  na_Up_client : NoAttr K Z.Up "client"
  na_Up_tick : NoAttr K Z.Up "tick"
  na_Up_inputs : NoAttr K Z.Up "inputs"
  cl_Client : Cls K Z.Client
  na_Client_number : NoAttr K Z.Client "number"
  na_Client_body : NoAttr K Z.Client "body"
  na_Client_last_tick : NoAttr K Z.Client "last_tick"
  na_Client_worlds : NoAttr K Z.Client "worlds"
  na_Client_inputs_made : NoAttr K Z.Client "inputs_made"
  na_Client_inputs : NoAttr K Z.Client "inputs"
  na_Client_bounds : NoAttr K Z.Client "bounds"
  cl_Peer : Cls K Z.Peer
  na_Peer_number : NoAttr K Z.Peer "number"
  na_Peer_body : NoAttr K Z.Peer "body"
  na_Peer_known_tick : NoAttr K Z.Peer "known_tick"
  na_Peer_sent : NoAttr K Z.Peer "sent"
  na_Peer_waiting : NoAttr K Z.Peer "waiting"
  cl_Net : Cls K Z.Net
  na_Net_world : NoAttr K Z.Net "world"
  na_Net_tick : NoAttr K Z.Net "tick"
  na_Net_kept : NoAttr K Z.Net "kept"
  na_Net_clients : NoAttr K Z.Net "clients"
  na_Net_peers : NoAttr K Z.Net "peers"
  na_Net_packets : NoAttr K Z.Net "packets"
  na_Net_drift : NoAttr K Z.Net "drift"
  cl_Shot : Cls K Z.Shot
  na_Shot_x : NoAttr K Z.Shot "x"
  na_Shot_y : NoAttr K Z.Shot "y"
  na_Shot_dx : NoAttr K Z.Shot "dx"
  na_Shot_dy : NoAttr K Z.Shot "dy"
  na_Shot_squared_step : NoAttr K Z.Shot "squared_step"
  g_Down : GC mg "Down" (.ref Z.Down)
  ty_Down : TyI K Z.Down
  ty_Up : TyI K Z.Up
  kit_DD : PySem.W.kitOne K (.ref Z.Down) (.ref Z.Down) = some true
  kit_UD : PySem.W.kitOne K (.ref Z.Up) (.ref Z.Down) = some false
  f_is_time : HasF K mg "is_time" s_is_time ["n", "d"]
  f_Between___init__ : HasC K mg Z.Between "Between" "Between.__init__" s_Between___init__ ["self", "worlds", "t1", "t2", "n", "d"]
  f_Between_upper_number : HasM K Z.Between "upper_number" "Between.upper_number" s_Between_upper_number ["self", "key"]
  f_shown_value : HasF K mg "shown_value" s_shown_value ["worlds", "key", "n", "d"]
  f_value_in_first : HasF K mg "value_in_first" s_value_in_first ["worlds", "ticks", "key"]
  f_value_between : HasF K mg "value_between" s_value_between ["worlds", "t1", "t2", "key", "n", "d"]
  f_is_body_number : HasF K mg "is_body_number" s_is_body_number ["number"]
  f_is_body_key : HasF K mg "is_body_key" s_is_body_key ["key"]
  f_body_of_key : HasF K mg "body_of_key" s_body_of_key ["key"]
  f_is_place : HasF K mg "is_place" s_is_place ["value"]
  f_is_speed : HasF K mg "is_speed" s_is_speed ["value"]
  f_is_push : HasF K mg "is_push" s_is_push ["value"]
  f_fits_body_key : HasF K mg "fits_body_key" s_fits_body_key ["key", "value"]
  f_followed_key : HasF K mg "followed_key" s_followed_key ["body"]
  f_has_body : HasF K mg "has_body" s_has_body ["world", "body"]
  f_put_body : HasF K mg "put_body" s_put_body ["world", "body", "x", "y", "vx", "vy"]
  f_body_values : HasF K mg "body_values" s_body_values ["world", "body"]
  f_follow_axis : HasF K mg "follow_axis" s_follow_axis ["world", "place_key", "push"]
  f_follow : HasF K mg "follow" s_follow ["world", "body", "ax", "ay"]
  f_greatest_divisor : HasF K mg "greatest_divisor" s_greatest_divisor ["one", "other"]
  f_least_terms : HasF K mg "least_terms" s_least_terms ["upper", "lower"]
  f_is_clock_time : HasF K mg "is_clock_time" s_is_clock_time ["time"]
  f_is_drift : HasF K mg "is_drift" s_is_drift ["drift"]
  f_Bounds___init__ : HasC K mg Z.Bounds "Bounds" "Bounds.__init__" s_Bounds___init__ ["self", "time", "lo", "hi"]
  f_Bounds_later : HasM K Z.Bounds "later" "Bounds.later" s_Bounds_later ["self", "time", "drift"]
  f_Bounds_told : HasM K Z.Bounds "told" "Bounds.told" s_Bounds_told ["self"]
  f_bounds_of_exchange : HasF K mg "bounds_of_exchange" s_bounds_of_exchange ["a", "s", "b", "drift"]
  f_both_together : HasF K mg "both_together" s_both_together ["old", "new"]
  f_Down___init__ : HasC K mg Z.Down "Down" "Down.__init__" s_Down___init__ ["self", "client", "tick", "base", "changes"]
  f_Up___init__ : HasC K mg Z.Up "Up" "Up.__init__" s_Up___init__ ["self", "client", "tick", "inputs"]
  f_changes_between : HasF K mg "changes_between" s_changes_between ["before", "after"]
  f_put_changes : HasF K mg "put_changes" s_put_changes ["base", "changes"]
  f_listed : HasF K mg "listed" s_listed ["world"]
  f_keep_world : HasF K mg "keep_world" s_keep_world ["worlds", "tick", "world", "most"]
  f_Client___init__ : HasC K mg Z.Client "Client" "Client.__init__" s_Client___init__ ["self", "number", "body"]
  f_Client_is_full : HasM K Z.Client "is_full" "Client.is_full" s_Client_is_full ["self"]
  f_Client_make_input : HasM K Z.Client "make_input" "Client.make_input" s_Client_make_input ["self", "ax", "ay"]
  f_Client_make_up : HasM K Z.Client "make_up" "Client.make_up" s_Client_make_up ["self"]
  f_Client_take_down : HasM K Z.Client "take_down" "Client.take_down" s_Client_take_down ["self", "packet"]
  f_Client_world_of : HasM K Z.Client "world_of" "Client.world_of" s_Client_world_of ["self", "tick"]
  f_Client_last_world : HasM K Z.Client "last_world" "Client.last_world" s_Client_last_world ["self"]
  f_Client_guess : HasM K Z.Client "guess" "Client.guess" s_Client_guess ["self"]
  f_Client_knows_later_than : HasM K Z.Client "knows_later_than" "Client.knows_later_than" s_Client_knows_later_than ["self", "time"]
  f_Client_learn_bounds : HasM K Z.Client "learn_bounds" "Client.learn_bounds" s_Client_learn_bounds ["self", "new", "drift"]
  f_Client_forget_inputs : HasM K Z.Client "forget_inputs" "Client.forget_inputs" s_Client_forget_inputs ["self", "followed"]
  f_Peer___init__ : HasC K mg Z.Peer "Peer" "Peer.__init__" s_Peer___init__ ["self", "number", "body"]
  f_Peer_make_down : HasM K Z.Peer "make_down" "Peer.make_down" s_Peer_make_down ["self", "tick", "world"]
  f_Peer_choose_base : HasM K Z.Peer "choose_base" "Peer.choose_base" s_Peer_choose_base ["self"]
  f_Peer_take_up : HasM K Z.Peer "take_up" "Peer.take_up" s_Peer_take_up ["self", "packet", "followed"]
  f_Peer_follow_waiting : HasM K Z.Peer "follow_waiting" "Peer.follow_waiting" s_Peer_follow_waiting ["self", "world"]
  f_Net___init__ : HasC K mg Z.Net "Net" "Net.__init__" s_Net___init__ ["self"]
  f_Net_clients_full : HasM K Z.Net "clients_full" "Net.clients_full" s_Net_clients_full ["self"]
  f_Net_packets_full : HasM K Z.Net "packets_full" "Net.packets_full" s_Net_packets_full ["self"]
  f_Net_body_is_taken : HasM K Z.Net "body_is_taken" "Net.body_is_taken" s_Net_body_is_taken ["self", "body"]
  f_Net_some_clock_is_known : HasM K Z.Net "some_clock_is_known" "Net.some_clock_is_known" s_Net_some_clock_is_known ["self"]
  f_Net_add_client : HasM K Z.Net "add_client" "Net.add_client" s_Net_add_client ["self", "number", "body"]
  f_Net_followed_by : HasM K Z.Net "followed_by" "Net.followed_by" s_Net_followed_by ["self", "number"]
  f_Net_advance : HasM K Z.Net "advance" "Net.advance" s_Net_advance ["self"]
  f_Net_add_packet : HasM K Z.Net "add_packet" "Net.add_packet" s_Net_add_packet ["self", "packet"]
  f_is_direction : HasF K mg "is_direction" s_is_direction ["dx", "dy"]
  f_Shot___init__ : HasC K mg Z.Shot "Shot" "Shot.__init__" s_Shot___init__ ["self", "x", "y", "dx", "dy"]
  f_Shot_way_to : HasM K Z.Shot "way_to" "Shot.way_to" s_Shot_way_to ["self", "upper_x", "upper_y", "lower"]
  f_Shot_meets : HasM K Z.Shot "meets" "Shot.meets" s_Shot_meets ["self", "between", "own"]
  f_tell_base : HasF K mg "tell_base" s_tell_base ["net", "number"]
  f_tell_guess : HasF K mg "tell_guess" s_tell_guess ["net", "number"]
  f_render : HasF K mg "render" s_render ["net", "number", "key", "n", "d"]
  f_are_ticks_around : HasF K mg "are_ticks_around" s_are_ticks_around ["t1", "t2", "n", "d"]
  f_judge_shot : HasF K mg "judge_shot" s_judge_shot ["net", "number", "dx", "dy", "t1", "t2", "n", "d"]
  f_tell_ring : HasF K mg "tell_ring" s_tell_ring ["net", "number"]
  f_exchange : HasF K mg "exchange" s_exchange ["net", "number", "a", "s", "b"]
  f_tell_offset : HasF K mg "tell_offset" s_tell_offset ["net", "number", "time"]
  f_set_drift : HasF K mg "set_drift" s_set_drift ["net", "drift"]
  f_send_down : HasF K mg "send_down" s_send_down ["net", "number"]
  f_send_up : HasF K mg "send_up" s_send_up ["net", "number"]
  f_deliver : HasF K mg "deliver" s_deliver ["net", "place"]
  f_add_input : HasF K mg "add_input" s_add_input ["net", "number", "ax", "ay"]
  f_tell_packet : HasF K mg "tell_packet" s_tell_packet ["net", "place"]
  f_told_down : HasF K mg "told_down" s_told_down ["packet"]
  f_told_value : HasF K mg "told_value" s_told_value ["value"]
  f_told_up : HasF K mg "told_up" s_told_up ["packet"]
  f_is_free_key : HasF K mg "is_free_key" s_is_free_key ["key"]
  f_make_body : HasF K mg "make_body" s_make_body ["net", "body", "x", "y", "vx", "vy"]
  f_make_client : HasF K mg "make_client" s_make_client ["net", "number", "body"]
  f_set_key : HasF K mg "set_key" s_set_key ["net", "key", "value"]
  f_unset_key : HasF K mg "unset_key" s_unset_key ["net", "key"]
  f_run_tick : HasF K mg "run_tick" s_run_tick ["net"]
  f_tell_world : HasF K mg "tell_world" s_tell_world ["net"]
  f_tell_counts : HasF K mg "tell_counts" s_tell_counts ["net"]
  f_answer_call : HasF K mg "answer_call" s_answer_call ["net", "call", "row"]
  f_answer_first_ten : HasF K mg "answer_first_ten" s_answer_first_ten ["net", "call", "row"]
  f_answer_last_ten : HasF K mg "answer_last_ten" s_answer_last_ten ["net", "call", "row"]
  f_answers : HasF K mg "answers" s_answers ["calls"]
theorem sc_is_time : FnScope ["n", "d"] ["n", "d"] (defScope s_is_time) := ⟨rfl, rfl, rfl, by decide +kernel, rfl, by decide +kernel, by decide +kernel⟩
theorem sc_Between___init__ : FnScope ["self", "worlds", "t1", "t2", "n", "d"] ["self", "worlds", "t1", "t2", "n", "d"] (defScope s_Between___init__) := ⟨rfl, rfl, rfl, by decide +kernel, rfl, by decide +kernel, by decide +kernel⟩
theorem sc_Between_upper_number : FnScope ["self", "key", "first", "second"] ["self", "key"] (defScope s_Between_upper_number) := ⟨rfl, rfl, rfl, by decide +kernel, rfl, by decide +kernel, by decide +kernel⟩
theorem sc_shown_value : FnScope ["worlds", "key", "n", "d", "ticks", "greater", "second", "tick"] ["worlds", "key", "n", "d"] (defScope s_shown_value) := ⟨rfl, rfl, rfl, by decide +kernel, rfl, by decide +kernel, by decide +kernel⟩
theorem sc_value_in_first : FnScope ["worlds", "ticks", "key"] ["worlds", "ticks", "key"] (defScope s_value_in_first) := ⟨rfl, rfl, rfl, by decide +kernel, rfl, by decide +kernel, by decide +kernel⟩
theorem sc_value_between : FnScope ["worlds", "t1", "t2", "key", "n", "d", "between", "upper"] ["worlds", "t1", "t2", "key", "n", "d"] (defScope s_value_between) := ⟨rfl, rfl, rfl, by decide +kernel, rfl, by decide +kernel, by decide +kernel⟩
theorem sc_is_body_number : FnScope ["number"] ["number"] (defScope s_is_body_number) := ⟨rfl, rfl, rfl, by decide +kernel, rfl, by decide +kernel, by decide +kernel⟩
theorem sc_is_body_key : FnScope ["key"] ["key"] (defScope s_is_body_key) := ⟨rfl, rfl, rfl, by decide +kernel, rfl, by decide +kernel, by decide +kernel⟩
theorem sc_body_of_key : FnScope ["key"] ["key"] (defScope s_body_of_key) := ⟨rfl, rfl, rfl, by decide +kernel, rfl, by decide +kernel, by decide +kernel⟩
theorem sc_is_place : FnScope ["value"] ["value"] (defScope s_is_place) := ⟨rfl, rfl, rfl, by decide +kernel, rfl, by decide +kernel, by decide +kernel⟩
theorem sc_is_speed : FnScope ["value"] ["value"] (defScope s_is_speed) := ⟨rfl, rfl, rfl, by decide +kernel, rfl, by decide +kernel, by decide +kernel⟩
theorem sc_is_push : FnScope ["value"] ["value"] (defScope s_is_push) := ⟨rfl, rfl, rfl, by decide +kernel, rfl, by decide +kernel, by decide +kernel⟩
theorem sc_fits_body_key : FnScope ["key", "value"] ["key", "value"] (defScope s_fits_body_key) := ⟨rfl, rfl, rfl, by decide +kernel, rfl, by decide +kernel, by decide +kernel⟩
theorem sc_followed_key : FnScope ["body"] ["body"] (defScope s_followed_key) := ⟨rfl, rfl, rfl, by decide +kernel, rfl, by decide +kernel, by decide +kernel⟩
theorem sc_has_body : FnScope ["world", "body"] ["world", "body"] (defScope s_has_body) := ⟨rfl, rfl, rfl, by decide +kernel, rfl, by decide +kernel, by decide +kernel⟩
theorem sc_put_body : FnScope ["world", "body", "x", "y", "vx", "vy", "first"] ["world", "body", "x", "y", "vx", "vy"] (defScope s_put_body) := ⟨rfl, rfl, rfl, by decide +kernel, rfl, by decide +kernel, by decide +kernel⟩
theorem sc_body_values : FnScope ["world", "body", "first", "keys", "key"] ["world", "body"] (defScope s_body_values) := ⟨rfl, rfl, rfl, by decide +kernel, rfl, by decide +kernel, by decide +kernel⟩
theorem sc_follow_axis : FnScope ["world", "place_key", "push", "speed_key", "speed", "place"] ["world", "place_key", "push"] (defScope s_follow_axis) := ⟨rfl, rfl, rfl, by decide +kernel, rfl, by decide +kernel, by decide +kernel⟩
theorem sc_follow : FnScope ["world", "body", "ax", "ay", "first"] ["world", "body", "ax", "ay"] (defScope s_follow) := ⟨rfl, rfl, rfl, by decide +kernel, rfl, by decide +kernel, by decide +kernel⟩
theorem sc_greatest_divisor : FnScope ["one", "other", "rest"] ["one", "other"] (defScope s_greatest_divisor) := ⟨rfl, rfl, rfl, by decide +kernel, rfl, by decide +kernel, by decide +kernel⟩
theorem sc_least_terms : FnScope ["upper", "lower", "divisor"] ["upper", "lower"] (defScope s_least_terms) := ⟨rfl, rfl, rfl, by decide +kernel, rfl, by decide +kernel, by decide +kernel⟩
theorem sc_is_clock_time : FnScope ["time"] ["time"] (defScope s_is_clock_time) := ⟨rfl, rfl, rfl, by decide +kernel, rfl, by decide +kernel, by decide +kernel⟩
theorem sc_is_drift : FnScope ["drift"] ["drift"] (defScope s_is_drift) := ⟨rfl, rfl, rfl, by decide +kernel, rfl, by decide +kernel, by decide +kernel⟩
theorem sc_Bounds___init__ : FnScope ["self", "time", "lo", "hi"] ["self", "time", "lo", "hi"] (defScope s_Bounds___init__) := ⟨rfl, rfl, rfl, by decide +kernel, rfl, by decide +kernel, by decide +kernel⟩
theorem sc_Bounds_later : FnScope ["self", "time", "drift", "gained"] ["self", "time", "drift"] (defScope s_Bounds_later) := ⟨rfl, rfl, rfl, by decide +kernel, rfl, by decide +kernel, by decide +kernel⟩
theorem sc_Bounds_told : FnScope ["self"] ["self"] (defScope s_Bounds_told) := ⟨rfl, rfl, rfl, by decide +kernel, rfl, by decide +kernel, by decide +kernel⟩
theorem sc_bounds_of_exchange : FnScope ["a", "s", "b", "drift"] ["a", "s", "b", "drift"] (defScope s_bounds_of_exchange) := ⟨rfl, rfl, rfl, by decide +kernel, rfl, by decide +kernel, by decide +kernel⟩
theorem sc_both_together : FnScope ["old", "new", "lo", "hi"] ["old", "new"] (defScope s_both_together) := ⟨rfl, rfl, rfl, by decide +kernel, rfl, by decide +kernel, by decide +kernel⟩
theorem sc_Down___init__ : FnScope ["self", "client", "tick", "base", "changes"] ["self", "client", "tick", "base", "changes"] (defScope s_Down___init__) := ⟨rfl, rfl, rfl, by decide +kernel, rfl, by decide +kernel, by decide +kernel⟩
theorem sc_Up___init__ : FnScope ["self", "client", "tick", "inputs"] ["self", "client", "tick", "inputs"] (defScope s_Up___init__) := ⟨rfl, rfl, rfl, by decide +kernel, rfl, by decide +kernel, by decide +kernel⟩
theorem sc_changes_between : FnScope ["before", "after", "changes", "key", "was", "now"] ["before", "after"] (defScope s_changes_between) := ⟨rfl, rfl, rfl, by decide +kernel, rfl, by decide +kernel, by decide +kernel⟩
theorem sc_put_changes : FnScope ["base", "changes", "world", "key", "was", "now"] ["base", "changes"] (defScope s_put_changes) := ⟨rfl, rfl, rfl, by decide +kernel, rfl, by decide +kernel, by decide +kernel⟩
theorem sc_listed : FnScope ["world", "told", "key"] ["world"] (defScope s_listed) := ⟨rfl, rfl, rfl, by decide +kernel, rfl, by decide +kernel, by decide +kernel⟩
theorem sc_keep_world : FnScope ["worlds", "tick", "world", "most"] ["worlds", "tick", "world", "most"] (defScope s_keep_world) := ⟨rfl, rfl, rfl, by decide +kernel, rfl, by decide +kernel, by decide +kernel⟩
theorem sc_Client___init__ : FnScope ["self", "number", "body"] ["self", "number", "body"] (defScope s_Client___init__) := ⟨rfl, rfl, rfl, by decide +kernel, rfl, by decide +kernel, by decide +kernel⟩
theorem sc_Client_is_full : FnScope ["self"] ["self"] (defScope s_Client_is_full) := ⟨rfl, rfl, rfl, by decide +kernel, rfl, by decide +kernel, by decide +kernel⟩
theorem sc_Client_make_input : FnScope ["self", "ax", "ay"] ["self", "ax", "ay"] (defScope s_Client_make_input) := ⟨rfl, rfl, rfl, by decide +kernel, rfl, by decide +kernel, by decide +kernel⟩
theorem sc_Client_make_up : FnScope ["self"] ["self"] (defScope s_Client_make_up) := ⟨rfl, rfl, rfl, by decide +kernel, rfl, by decide +kernel, by decide +kernel⟩
theorem sc_Client_take_down : FnScope ["self", "packet", "world"] ["self", "packet"] (defScope s_Client_take_down) := ⟨rfl, rfl, rfl, by decide +kernel, rfl, by decide +kernel, by decide +kernel⟩
theorem sc_Client_world_of : FnScope ["self", "tick"] ["self", "tick"] (defScope s_Client_world_of) := ⟨rfl, rfl, rfl, by decide +kernel, rfl, by decide +kernel, by decide +kernel⟩
theorem sc_Client_last_world : FnScope ["self"] ["self"] (defScope s_Client_last_world) := ⟨rfl, rfl, rfl, by decide +kernel, rfl, by decide +kernel, by decide +kernel⟩
theorem sc_Client_guess : FnScope ["self", "world", "push"] ["self"] (defScope s_Client_guess) := ⟨rfl, rfl, rfl, by decide +kernel, rfl, by decide +kernel, by decide +kernel⟩
theorem sc_Client_knows_later_than : FnScope ["self", "time"] ["self", "time"] (defScope s_Client_knows_later_than) := ⟨rfl, rfl, rfl, by decide +kernel, rfl, by decide +kernel, by decide +kernel⟩
theorem sc_Client_learn_bounds : FnScope ["self", "new", "drift", "both"] ["self", "new", "drift"] (defScope s_Client_learn_bounds) := ⟨rfl, rfl, rfl, by decide +kernel, rfl, by decide +kernel, by decide +kernel⟩
theorem sc_Client_forget_inputs : FnScope ["self", "followed", "number"] ["self", "followed"] (defScope s_Client_forget_inputs) := ⟨rfl, rfl, rfl, by decide +kernel, rfl, by decide +kernel, by decide +kernel⟩
theorem sc_Peer___init__ : FnScope ["self", "number", "body"] ["self", "number", "body"] (defScope s_Peer___init__) := ⟨rfl, rfl, rfl, by decide +kernel, rfl, by decide +kernel, by decide +kernel⟩
theorem sc_Peer_make_down : FnScope ["self", "tick", "world", "base", "changes"] ["self", "tick", "world"] (defScope s_Peer_make_down) := ⟨rfl, rfl, rfl, by decide +kernel, rfl, by decide +kernel, by decide +kernel⟩
theorem sc_Peer_choose_base : FnScope ["self"] ["self"] (defScope s_Peer_choose_base) := ⟨rfl, rfl, rfl, by decide +kernel, rfl, by decide +kernel, by decide +kernel⟩
theorem sc_Peer_take_up : FnScope ["self", "packet", "followed", "number", "push"] ["self", "packet", "followed"] (defScope s_Peer_take_up) := ⟨rfl, rfl, rfl, by decide +kernel, rfl, by decide +kernel, by decide +kernel⟩
theorem sc_Peer_follow_waiting : FnScope ["self", "world", "turn", "push"] ["self", "world"] (defScope s_Peer_follow_waiting) := ⟨rfl, rfl, rfl, by decide +kernel, rfl, by decide +kernel, by decide +kernel⟩
theorem sc_Net___init__ : FnScope ["self"] ["self"] (defScope s_Net___init__) := ⟨rfl, rfl, rfl, by decide +kernel, rfl, by decide +kernel, by decide +kernel⟩
theorem sc_Net_clients_full : FnScope ["self"] ["self"] (defScope s_Net_clients_full) := ⟨rfl, rfl, rfl, by decide +kernel, rfl, by decide +kernel, by decide +kernel⟩
theorem sc_Net_packets_full : FnScope ["self"] ["self"] (defScope s_Net_packets_full) := ⟨rfl, rfl, rfl, by decide +kernel, rfl, by decide +kernel, by decide +kernel⟩
theorem sc_Net_body_is_taken : FnScope ["self", "body", "client"] ["self", "body"] (defScope s_Net_body_is_taken) := ⟨rfl, rfl, rfl, by decide +kernel, rfl, by decide +kernel, by decide +kernel⟩
theorem sc_Net_some_clock_is_known : FnScope ["self", "client"] ["self"] (defScope s_Net_some_clock_is_known) := ⟨rfl, rfl, rfl, by decide +kernel, rfl, by decide +kernel, by decide +kernel⟩
theorem sc_Net_add_client : FnScope ["self", "number", "body"] ["self", "number", "body"] (defScope s_Net_add_client) := ⟨rfl, rfl, rfl, by decide +kernel, rfl, by decide +kernel, by decide +kernel⟩
theorem sc_Net_followed_by : FnScope ["self", "number"] ["self", "number"] (defScope s_Net_followed_by) := ⟨rfl, rfl, rfl, by decide +kernel, rfl, by decide +kernel, by decide +kernel⟩
theorem sc_Net_advance : FnScope ["self", "peer"] ["self"] (defScope s_Net_advance) := ⟨rfl, rfl, rfl, by decide +kernel, rfl, by decide +kernel, by decide +kernel⟩
theorem sc_Net_add_packet : FnScope ["self", "packet"] ["self", "packet"] (defScope s_Net_add_packet) := ⟨rfl, rfl, rfl, by decide +kernel, rfl, by decide +kernel, by decide +kernel⟩
theorem sc_is_direction : FnScope ["dx", "dy", "in_range"] ["dx", "dy"] (defScope s_is_direction) := ⟨rfl, rfl, rfl, by decide +kernel, rfl, by decide +kernel, by decide +kernel⟩
theorem sc_Shot___init__ : FnScope ["self", "x", "y", "dx", "dy"] ["self", "x", "y", "dx", "dy"] (defScope s_Shot___init__) := ⟨rfl, rfl, rfl, by decide +kernel, rfl, by decide +kernel, by decide +kernel⟩
theorem sc_Shot_way_to : FnScope ["self", "upper_x", "upper_y", "lower", "away_x", "away_y", "along", "squared_reach", "aside"] ["self", "upper_x", "upper_y", "lower"] (defScope s_Shot_way_to) := ⟨rfl, rfl, rfl, by decide +kernel, rfl, by decide +kernel, by decide +kernel⟩
theorem sc_Shot_meets : FnScope ["self", "between", "own", "found", "body", "upper_x", "upper_y", "way"] ["self", "between", "own"] (defScope s_Shot_meets) := ⟨rfl, rfl, rfl, by decide +kernel, rfl, by decide +kernel, by decide +kernel⟩
theorem sc_tell_base : FnScope ["net", "number", "client"] ["net", "number"] (defScope s_tell_base) := ⟨rfl, rfl, rfl, by decide +kernel, rfl, by decide +kernel, by decide +kernel⟩
theorem sc_tell_guess : FnScope ["net", "number", "client"] ["net", "number"] (defScope s_tell_guess) := ⟨rfl, rfl, rfl, by decide +kernel, rfl, by decide +kernel, by decide +kernel⟩
theorem sc_render : FnScope ["net", "number", "key", "n", "d", "value"] ["net", "number", "key", "n", "d"] (defScope s_render) := ⟨rfl, rfl, rfl, by decide +kernel, rfl, by decide +kernel, by decide +kernel⟩
theorem sc_are_ticks_around : FnScope ["t1", "t2", "n", "d"] ["t1", "t2", "n", "d"] (defScope s_are_ticks_around) := ⟨rfl, rfl, rfl, by decide +kernel, rfl, by decide +kernel, by decide +kernel⟩
theorem sc_judge_shot : FnScope ["net", "number", "dx", "dy", "t1", "t2", "n", "d", "own", "first", "shot", "between", "met", "told", "way", "body"] ["net", "number", "dx", "dy", "t1", "t2", "n", "d"] (defScope s_judge_shot) := ⟨rfl, rfl, rfl, by decide +kernel, rfl, by decide +kernel, by decide +kernel⟩
theorem sc_tell_ring : FnScope ["net", "number"] ["net", "number"] (defScope s_tell_ring) := ⟨rfl, rfl, rfl, by decide +kernel, rfl, by decide +kernel, by decide +kernel⟩
theorem sc_exchange : FnScope ["net", "number", "a", "s", "b", "client", "agrees"] ["net", "number", "a", "s", "b"] (defScope s_exchange) := ⟨rfl, rfl, rfl, by decide +kernel, rfl, by decide +kernel, by decide +kernel⟩
theorem sc_tell_offset : FnScope ["net", "number", "time", "client"] ["net", "number", "time"] (defScope s_tell_offset) := ⟨rfl, rfl, rfl, by decide +kernel, rfl, by decide +kernel, by decide +kernel⟩
theorem sc_set_drift : FnScope ["net", "drift"] ["net", "drift"] (defScope s_set_drift) := ⟨rfl, rfl, rfl, by decide +kernel, rfl, by decide +kernel, by decide +kernel⟩
theorem sc_send_down : FnScope ["net", "number", "packet"] ["net", "number"] (defScope s_send_down) := ⟨rfl, rfl, rfl, by decide +kernel, rfl, by decide +kernel, by decide +kernel⟩
theorem sc_send_up : FnScope ["net", "number", "packet"] ["net", "number"] (defScope s_send_up) := ⟨rfl, rfl, rfl, by decide +kernel, rfl, by decide +kernel, by decide +kernel⟩
theorem sc_deliver : FnScope ["net", "place", "packet", "taken", "peer"] ["net", "place"] (defScope s_deliver) := ⟨rfl, rfl, rfl, by decide +kernel, rfl, by decide +kernel, by decide +kernel⟩
theorem sc_add_input : FnScope ["net", "number", "ax", "ay", "client"] ["net", "number", "ax", "ay"] (defScope s_add_input) := ⟨rfl, rfl, rfl, by decide +kernel, rfl, by decide +kernel, by decide +kernel⟩
theorem sc_tell_packet : FnScope ["net", "place", "packet"] ["net", "place"] (defScope s_tell_packet) := ⟨rfl, rfl, rfl, by decide +kernel, rfl, by decide +kernel, by decide +kernel⟩
theorem sc_told_down : FnScope ["packet", "told", "key", "was", "now"] ["packet"] (defScope s_told_down) := ⟨rfl, rfl, rfl, by decide +kernel, rfl, by decide +kernel, by decide +kernel⟩
theorem sc_told_value : FnScope ["value"] ["value"] (defScope s_told_value) := ⟨rfl, rfl, rfl, by decide +kernel, rfl, by decide +kernel, by decide +kernel⟩
theorem sc_told_up : FnScope ["packet", "told", "number", "push"] ["packet"] (defScope s_told_up) := ⟨rfl, rfl, rfl, by decide +kernel, rfl, by decide +kernel, by decide +kernel⟩
theorem sc_is_free_key : FnScope ["key"] ["key"] (defScope s_is_free_key) := ⟨rfl, rfl, rfl, by decide +kernel, rfl, by decide +kernel, by decide +kernel⟩
theorem sc_make_body : FnScope ["net", "body", "x", "y", "vx", "vy", "placed", "moving"] ["net", "body", "x", "y", "vx", "vy"] (defScope s_make_body) := ⟨rfl, rfl, rfl, by decide +kernel, rfl, by decide +kernel, by decide +kernel⟩
theorem sc_make_client : FnScope ["net", "number", "body"] ["net", "number", "body"] (defScope s_make_client) := ⟨rfl, rfl, rfl, by decide +kernel, rfl, by decide +kernel, by decide +kernel⟩
theorem sc_set_key : FnScope ["net", "key", "value", "fits"] ["net", "key", "value"] (defScope s_set_key) := ⟨rfl, rfl, rfl, by decide +kernel, rfl, by decide +kernel, by decide +kernel⟩
theorem sc_unset_key : FnScope ["net", "key"] ["net", "key"] (defScope s_unset_key) := ⟨rfl, rfl, rfl, by decide +kernel, rfl, by decide +kernel, by decide +kernel⟩
theorem sc_run_tick : FnScope ["net", "told", "number", "peer"] ["net"] (defScope s_run_tick) := ⟨rfl, rfl, rfl, by decide +kernel, rfl, by decide +kernel, by decide +kernel⟩
theorem sc_tell_world : FnScope ["net"] ["net"] (defScope s_tell_world) := ⟨rfl, rfl, rfl, by decide +kernel, rfl, by decide +kernel, by decide +kernel⟩
theorem sc_tell_counts : FnScope ["net", "told", "number", "peer"] ["net"] (defScope s_tell_counts) := ⟨rfl, rfl, rfl, by decide +kernel, rfl, by decide +kernel, by decide +kernel⟩
theorem sc_answer_call : FnScope ["net", "call", "row"] ["net", "call", "row"] (defScope s_answer_call) := ⟨rfl, rfl, rfl, by decide +kernel, rfl, by decide +kernel, by decide +kernel⟩
theorem sc_answer_first_ten : FnScope ["net", "call", "row"] ["net", "call", "row"] (defScope s_answer_first_ten) := ⟨rfl, rfl, rfl, by decide +kernel, rfl, by decide +kernel, by decide +kernel⟩
theorem sc_answer_last_ten : FnScope ["net", "call", "row"] ["net", "call", "row"] (defScope s_answer_last_ten) := ⟨rfl, rfl, rfl, by decide +kernel, rfl, by decide +kernel, by decide +kernel⟩
theorem sc_answers : FnScope ["calls", "net", "told", "at", "first", "behind", "answer"] ["calls"] (defScope s_answers) := ⟨rfl, rfl, rfl, by decide +kernel, rfl, by decide +kernel, by decide +kernel⟩
end MN
set_option Elab.async false
set_option maxRecDepth 100000
set_option maxHeartbeats 0
set_option linter.unusedVariables false
namespace MN
open PySem PySem.Spec PyProof.Rows L2
def dd_is_time : He.DefD := ⟨("is_time", none), "is_time", "is_time", defArgs s_is_time, defBody s_is_time, defScope s_is_time, [], []⟩
def dd_Between___init__ : He.DefD := ⟨("Between", some "__init__"), "__init__", "Between.__init__", defArgs s_Between___init__, defBody s_Between___init__, defScope s_Between___init__, [], []⟩
def dd_Between_upper_number : He.DefD := ⟨("Between", some "upper_number"), "upper_number", "Between.upper_number", defArgs s_Between_upper_number, defBody s_Between_upper_number, defScope s_Between_upper_number, [], []⟩
def dd_shown_value : He.DefD := ⟨("shown_value", none), "shown_value", "shown_value", defArgs s_shown_value, defBody s_shown_value, defScope s_shown_value, [], []⟩
def dd_value_in_first : He.DefD := ⟨("value_in_first", none), "value_in_first", "value_in_first", defArgs s_value_in_first, defBody s_value_in_first, defScope s_value_in_first, [], []⟩
def dd_value_between : He.DefD := ⟨("value_between", none), "value_between", "value_between", defArgs s_value_between, defBody s_value_between, defScope s_value_between, [], []⟩
def dd_is_body_number : He.DefD := ⟨("is_body_number", none), "is_body_number", "is_body_number", defArgs s_is_body_number, defBody s_is_body_number, defScope s_is_body_number, [], []⟩
def dd_is_body_key : He.DefD := ⟨("is_body_key", none), "is_body_key", "is_body_key", defArgs s_is_body_key, defBody s_is_body_key, defScope s_is_body_key, [], []⟩
def dd_body_of_key : He.DefD := ⟨("body_of_key", none), "body_of_key", "body_of_key", defArgs s_body_of_key, defBody s_body_of_key, defScope s_body_of_key, [], []⟩
def dd_is_place : He.DefD := ⟨("is_place", none), "is_place", "is_place", defArgs s_is_place, defBody s_is_place, defScope s_is_place, [], []⟩
def dd_is_speed : He.DefD := ⟨("is_speed", none), "is_speed", "is_speed", defArgs s_is_speed, defBody s_is_speed, defScope s_is_speed, [], []⟩
def dd_is_push : He.DefD := ⟨("is_push", none), "is_push", "is_push", defArgs s_is_push, defBody s_is_push, defScope s_is_push, [], []⟩
def dd_fits_body_key : He.DefD := ⟨("fits_body_key", none), "fits_body_key", "fits_body_key", defArgs s_fits_body_key, defBody s_fits_body_key, defScope s_fits_body_key, [], []⟩
def dd_followed_key : He.DefD := ⟨("followed_key", none), "followed_key", "followed_key", defArgs s_followed_key, defBody s_followed_key, defScope s_followed_key, [], []⟩
def dd_has_body : He.DefD := ⟨("has_body", none), "has_body", "has_body", defArgs s_has_body, defBody s_has_body, defScope s_has_body, [], []⟩
def dd_put_body : He.DefD := ⟨("put_body", none), "put_body", "put_body", defArgs s_put_body, defBody s_put_body, defScope s_put_body, [], []⟩
def dd_body_values : He.DefD := ⟨("body_values", none), "body_values", "body_values", defArgs s_body_values, defBody s_body_values, defScope s_body_values, [], []⟩
def dd_follow_axis : He.DefD := ⟨("follow_axis", none), "follow_axis", "follow_axis", defArgs s_follow_axis, defBody s_follow_axis, defScope s_follow_axis, [], []⟩
def dd_follow : He.DefD := ⟨("follow", none), "follow", "follow", defArgs s_follow, defBody s_follow, defScope s_follow, [], []⟩
def dd_greatest_divisor : He.DefD := ⟨("greatest_divisor", none), "greatest_divisor", "greatest_divisor", defArgs s_greatest_divisor, defBody s_greatest_divisor, defScope s_greatest_divisor, [], []⟩
def dd_least_terms : He.DefD := ⟨("least_terms", none), "least_terms", "least_terms", defArgs s_least_terms, defBody s_least_terms, defScope s_least_terms, [], []⟩
def dd_is_clock_time : He.DefD := ⟨("is_clock_time", none), "is_clock_time", "is_clock_time", defArgs s_is_clock_time, defBody s_is_clock_time, defScope s_is_clock_time, [], []⟩
def dd_is_drift : He.DefD := ⟨("is_drift", none), "is_drift", "is_drift", defArgs s_is_drift, defBody s_is_drift, defScope s_is_drift, [], []⟩
def dd_Bounds___init__ : He.DefD := ⟨("Bounds", some "__init__"), "__init__", "Bounds.__init__", defArgs s_Bounds___init__, defBody s_Bounds___init__, defScope s_Bounds___init__, [], []⟩
def dd_Bounds_later : He.DefD := ⟨("Bounds", some "later"), "later", "Bounds.later", defArgs s_Bounds_later, defBody s_Bounds_later, defScope s_Bounds_later, [], []⟩
def dd_Bounds_told : He.DefD := ⟨("Bounds", some "told"), "told", "Bounds.told", defArgs s_Bounds_told, defBody s_Bounds_told, defScope s_Bounds_told, [], []⟩
def dd_bounds_of_exchange : He.DefD := ⟨("bounds_of_exchange", none), "bounds_of_exchange", "bounds_of_exchange", defArgs s_bounds_of_exchange, defBody s_bounds_of_exchange, defScope s_bounds_of_exchange, [], []⟩
def dd_both_together : He.DefD := ⟨("both_together", none), "both_together", "both_together", defArgs s_both_together, defBody s_both_together, defScope s_both_together, [], []⟩
def dd_Down___init__ : He.DefD := ⟨("Down", some "__init__"), "__init__", "Down.__init__", defArgs s_Down___init__, defBody s_Down___init__, defScope s_Down___init__, [], []⟩
def dd_Up___init__ : He.DefD := ⟨("Up", some "__init__"), "__init__", "Up.__init__", defArgs s_Up___init__, defBody s_Up___init__, defScope s_Up___init__, [], []⟩
def dd_changes_between : He.DefD := ⟨("changes_between", none), "changes_between", "changes_between", defArgs s_changes_between, defBody s_changes_between, defScope s_changes_between, [], []⟩
def dd_put_changes : He.DefD := ⟨("put_changes", none), "put_changes", "put_changes", defArgs s_put_changes, defBody s_put_changes, defScope s_put_changes, [], []⟩
def dd_listed : He.DefD := ⟨("listed", none), "listed", "listed", defArgs s_listed, defBody s_listed, defScope s_listed, [], []⟩
def dd_keep_world : He.DefD := ⟨("keep_world", none), "keep_world", "keep_world", defArgs s_keep_world, defBody s_keep_world, defScope s_keep_world, [], []⟩
def dd_Client___init__ : He.DefD := ⟨("Client", some "__init__"), "__init__", "Client.__init__", defArgs s_Client___init__, defBody s_Client___init__, defScope s_Client___init__, [], []⟩
def dd_Client_is_full : He.DefD := ⟨("Client", some "is_full"), "is_full", "Client.is_full", defArgs s_Client_is_full, defBody s_Client_is_full, defScope s_Client_is_full, [], []⟩
def dd_Client_make_input : He.DefD := ⟨("Client", some "make_input"), "make_input", "Client.make_input", defArgs s_Client_make_input, defBody s_Client_make_input, defScope s_Client_make_input, [], []⟩
def dd_Client_make_up : He.DefD := ⟨("Client", some "make_up"), "make_up", "Client.make_up", defArgs s_Client_make_up, defBody s_Client_make_up, defScope s_Client_make_up, [], []⟩
def dd_Client_take_down : He.DefD := ⟨("Client", some "take_down"), "take_down", "Client.take_down", defArgs s_Client_take_down, defBody s_Client_take_down, defScope s_Client_take_down, [], []⟩
def dd_Client_world_of : He.DefD := ⟨("Client", some "world_of"), "world_of", "Client.world_of", defArgs s_Client_world_of, defBody s_Client_world_of, defScope s_Client_world_of, [], []⟩
def dd_Client_last_world : He.DefD := ⟨("Client", some "last_world"), "last_world", "Client.last_world", defArgs s_Client_last_world, defBody s_Client_last_world, defScope s_Client_last_world, [], []⟩
def dd_Client_guess : He.DefD := ⟨("Client", some "guess"), "guess", "Client.guess", defArgs s_Client_guess, defBody s_Client_guess, defScope s_Client_guess, [], []⟩
def dd_Client_knows_later_than : He.DefD := ⟨("Client", some "knows_later_than"), "knows_later_than", "Client.knows_later_than", defArgs s_Client_knows_later_than, defBody s_Client_knows_later_than, defScope s_Client_knows_later_than, [], []⟩
def dd_Client_learn_bounds : He.DefD := ⟨("Client", some "learn_bounds"), "learn_bounds", "Client.learn_bounds", defArgs s_Client_learn_bounds, defBody s_Client_learn_bounds, defScope s_Client_learn_bounds, [], []⟩
def dd_Client_forget_inputs : He.DefD := ⟨("Client", some "forget_inputs"), "forget_inputs", "Client.forget_inputs", defArgs s_Client_forget_inputs, defBody s_Client_forget_inputs, defScope s_Client_forget_inputs, [], []⟩
def dd_Peer___init__ : He.DefD := ⟨("Peer", some "__init__"), "__init__", "Peer.__init__", defArgs s_Peer___init__, defBody s_Peer___init__, defScope s_Peer___init__, [], []⟩
def dd_Peer_make_down : He.DefD := ⟨("Peer", some "make_down"), "make_down", "Peer.make_down", defArgs s_Peer_make_down, defBody s_Peer_make_down, defScope s_Peer_make_down, [], []⟩
def dd_Peer_choose_base : He.DefD := ⟨("Peer", some "choose_base"), "choose_base", "Peer.choose_base", defArgs s_Peer_choose_base, defBody s_Peer_choose_base, defScope s_Peer_choose_base, [], []⟩
def dd_Peer_take_up : He.DefD := ⟨("Peer", some "take_up"), "take_up", "Peer.take_up", defArgs s_Peer_take_up, defBody s_Peer_take_up, defScope s_Peer_take_up, [], []⟩
def dd_Peer_follow_waiting : He.DefD := ⟨("Peer", some "follow_waiting"), "follow_waiting", "Peer.follow_waiting", defArgs s_Peer_follow_waiting, defBody s_Peer_follow_waiting, defScope s_Peer_follow_waiting, [], []⟩
def dd_Net___init__ : He.DefD := ⟨("Net", some "__init__"), "__init__", "Net.__init__", defArgs s_Net___init__, defBody s_Net___init__, defScope s_Net___init__, [], []⟩
def dd_Net_clients_full : He.DefD := ⟨("Net", some "clients_full"), "clients_full", "Net.clients_full", defArgs s_Net_clients_full, defBody s_Net_clients_full, defScope s_Net_clients_full, [], []⟩
def dd_Net_packets_full : He.DefD := ⟨("Net", some "packets_full"), "packets_full", "Net.packets_full", defArgs s_Net_packets_full, defBody s_Net_packets_full, defScope s_Net_packets_full, [], []⟩
def dd_Net_body_is_taken : He.DefD := ⟨("Net", some "body_is_taken"), "body_is_taken", "Net.body_is_taken", defArgs s_Net_body_is_taken, defBody s_Net_body_is_taken, defScope s_Net_body_is_taken, [], []⟩
def dd_Net_some_clock_is_known : He.DefD := ⟨("Net", some "some_clock_is_known"), "some_clock_is_known", "Net.some_clock_is_known", defArgs s_Net_some_clock_is_known, defBody s_Net_some_clock_is_known, defScope s_Net_some_clock_is_known, [], []⟩
def dd_Net_add_client : He.DefD := ⟨("Net", some "add_client"), "add_client", "Net.add_client", defArgs s_Net_add_client, defBody s_Net_add_client, defScope s_Net_add_client, [], []⟩
def dd_Net_followed_by : He.DefD := ⟨("Net", some "followed_by"), "followed_by", "Net.followed_by", defArgs s_Net_followed_by, defBody s_Net_followed_by, defScope s_Net_followed_by, [], []⟩
def dd_Net_advance : He.DefD := ⟨("Net", some "advance"), "advance", "Net.advance", defArgs s_Net_advance, defBody s_Net_advance, defScope s_Net_advance, [], []⟩
def dd_Net_add_packet : He.DefD := ⟨("Net", some "add_packet"), "add_packet", "Net.add_packet", defArgs s_Net_add_packet, defBody s_Net_add_packet, defScope s_Net_add_packet, [], []⟩
def dd_is_direction : He.DefD := ⟨("is_direction", none), "is_direction", "is_direction", defArgs s_is_direction, defBody s_is_direction, defScope s_is_direction, [], []⟩
def dd_Shot___init__ : He.DefD := ⟨("Shot", some "__init__"), "__init__", "Shot.__init__", defArgs s_Shot___init__, defBody s_Shot___init__, defScope s_Shot___init__, [], []⟩
def dd_Shot_way_to : He.DefD := ⟨("Shot", some "way_to"), "way_to", "Shot.way_to", defArgs s_Shot_way_to, defBody s_Shot_way_to, defScope s_Shot_way_to, [], []⟩
def dd_Shot_meets : He.DefD := ⟨("Shot", some "meets"), "meets", "Shot.meets", defArgs s_Shot_meets, defBody s_Shot_meets, defScope s_Shot_meets, [], []⟩
def dd_tell_base : He.DefD := ⟨("tell_base", none), "tell_base", "tell_base", defArgs s_tell_base, defBody s_tell_base, defScope s_tell_base, [], []⟩
def dd_tell_guess : He.DefD := ⟨("tell_guess", none), "tell_guess", "tell_guess", defArgs s_tell_guess, defBody s_tell_guess, defScope s_tell_guess, [], []⟩
def dd_render : He.DefD := ⟨("render", none), "render", "render", defArgs s_render, defBody s_render, defScope s_render, [], []⟩
def dd_are_ticks_around : He.DefD := ⟨("are_ticks_around", none), "are_ticks_around", "are_ticks_around", defArgs s_are_ticks_around, defBody s_are_ticks_around, defScope s_are_ticks_around, [], []⟩
def dd_judge_shot : He.DefD := ⟨("judge_shot", none), "judge_shot", "judge_shot", defArgs s_judge_shot, defBody s_judge_shot, defScope s_judge_shot, [], []⟩
def dd_tell_ring : He.DefD := ⟨("tell_ring", none), "tell_ring", "tell_ring", defArgs s_tell_ring, defBody s_tell_ring, defScope s_tell_ring, [], []⟩
def dd_exchange : He.DefD := ⟨("exchange", none), "exchange", "exchange", defArgs s_exchange, defBody s_exchange, defScope s_exchange, [], []⟩
def dd_tell_offset : He.DefD := ⟨("tell_offset", none), "tell_offset", "tell_offset", defArgs s_tell_offset, defBody s_tell_offset, defScope s_tell_offset, [], []⟩
def dd_set_drift : He.DefD := ⟨("set_drift", none), "set_drift", "set_drift", defArgs s_set_drift, defBody s_set_drift, defScope s_set_drift, [], []⟩
def dd_send_down : He.DefD := ⟨("send_down", none), "send_down", "send_down", defArgs s_send_down, defBody s_send_down, defScope s_send_down, [], []⟩
def dd_send_up : He.DefD := ⟨("send_up", none), "send_up", "send_up", defArgs s_send_up, defBody s_send_up, defScope s_send_up, [], []⟩
def dd_deliver : He.DefD := ⟨("deliver", none), "deliver", "deliver", defArgs s_deliver, defBody s_deliver, defScope s_deliver, [], []⟩
def dd_add_input : He.DefD := ⟨("add_input", none), "add_input", "add_input", defArgs s_add_input, defBody s_add_input, defScope s_add_input, [], []⟩
def dd_tell_packet : He.DefD := ⟨("tell_packet", none), "tell_packet", "tell_packet", defArgs s_tell_packet, defBody s_tell_packet, defScope s_tell_packet, [], []⟩
def dd_told_down : He.DefD := ⟨("told_down", none), "told_down", "told_down", defArgs s_told_down, defBody s_told_down, defScope s_told_down, [], []⟩
def dd_told_value : He.DefD := ⟨("told_value", none), "told_value", "told_value", defArgs s_told_value, defBody s_told_value, defScope s_told_value, [], []⟩
def dd_told_up : He.DefD := ⟨("told_up", none), "told_up", "told_up", defArgs s_told_up, defBody s_told_up, defScope s_told_up, [], []⟩
def dd_is_free_key : He.DefD := ⟨("is_free_key", none), "is_free_key", "is_free_key", defArgs s_is_free_key, defBody s_is_free_key, defScope s_is_free_key, [], []⟩
def dd_make_body : He.DefD := ⟨("make_body", none), "make_body", "make_body", defArgs s_make_body, defBody s_make_body, defScope s_make_body, [], []⟩
def dd_make_client : He.DefD := ⟨("make_client", none), "make_client", "make_client", defArgs s_make_client, defBody s_make_client, defScope s_make_client, [], []⟩
def dd_set_key : He.DefD := ⟨("set_key", none), "set_key", "set_key", defArgs s_set_key, defBody s_set_key, defScope s_set_key, [], []⟩
def dd_unset_key : He.DefD := ⟨("unset_key", none), "unset_key", "unset_key", defArgs s_unset_key, defBody s_unset_key, defScope s_unset_key, [], []⟩
def dd_run_tick : He.DefD := ⟨("run_tick", none), "run_tick", "run_tick", defArgs s_run_tick, defBody s_run_tick, defScope s_run_tick, [], []⟩
def dd_tell_world : He.DefD := ⟨("tell_world", none), "tell_world", "tell_world", defArgs s_tell_world, defBody s_tell_world, defScope s_tell_world, [], []⟩
def dd_tell_counts : He.DefD := ⟨("tell_counts", none), "tell_counts", "tell_counts", defArgs s_tell_counts, defBody s_tell_counts, defScope s_tell_counts, [], []⟩
def dd_answer_call : He.DefD := ⟨("answer_call", none), "answer_call", "answer_call", defArgs s_answer_call, defBody s_answer_call, defScope s_answer_call, [], []⟩
def dd_answer_first_ten : He.DefD := ⟨("answer_first_ten", none), "answer_first_ten", "answer_first_ten", defArgs s_answer_first_ten, defBody s_answer_first_ten, defScope s_answer_first_ten, [], []⟩
def dd_answer_last_ten : He.DefD := ⟨("answer_last_ten", none), "answer_last_ten", "answer_last_ten", defArgs s_answer_last_ten, defBody s_answer_last_ten, defScope s_answer_last_ten, [], []⟩
def dd_answers : He.DefD := ⟨("answers", none), "answers", "answers", defArgs s_answers, defBody s_answers, defScope s_answers, [], []⟩
def fa_0 : List He.Fa := [.int "GREATEST_UPPER" (1000000), .int "GREATEST_LOWER" (1000), .int "MOST_TICKS_BEYOND" (3), .int "BODIES" (8), .int "KEYS_OF_A_BODY" (4), .int "FIRST_FOLLOWED_KEY" (1000), .int "FURTHEST" (1000), .int "FASTEST" (20), .int "STRONGEST" (3), .int "GREATEST_TIME" (1000000000), .int "GREATEST_DRIFT" (500), .int "PARTS" (1000), .int "MOST_WORLDS" (16), .int "MOST_INPUTS" (64), .int "MOST_SENT" (16), .int "MOST_FOLLOWED_A_TICK" (4), .int "GREATEST_TICK" (10000), .int "MOST_KEPT" (64), .int "MOST_CLIENTS" (4), .int "MOST_PACKETS" (200), .int "NO_SUCH" (-1), .int "OUT_OF_RANGE" (-2), .int "TAKEN" (-3), .int "FULL" (-4), .int "LAST_TICK" (-5), .int "NO_TICK_YET" (-6), .int "NOTHING_SHOWN" (-7), .int "NOT_KEPT" (-8), .int "NOTHING_KNOWN" (-9), .int "GREATEST_STEP" (1000)]
def fa_1 : List He.Fa := [.int "GREATEST_SQUARED_DISTANCE" (25), .int "GREATEST_KEY" (4095), .int "GREATEST_CLIENT" (9), .int "FIRST_FREE_KEY" (2000), .int "LAST_FREE_KEY" (2063), .int "GREATEST_FREE_VALUE" (1000000), .glo "ARGUMENTS", .free "abs", .free "any", .free "dict", .free "isinstance", .free "len", .free "list", .free "max", .free "min", .free "range", .free "set", .free "sorted", .glo "Between", .cls "Between", .mkr "Between", .noat "Between" "before", .noat "Between" "after", .noat "Between" "lower_number", .noat "Between" "passed", .glo "Bounds", .cls "Bounds", .mkr "Bounds", .noat "Bounds" "time", .noat "Bounds" "lo"]
def fa_2 : List He.Fa := [.noat "Bounds" "hi", .glo "Down", .cls "Down", .mkr "Down", .noat "Down" "client", .noat "Down" "tick", .noat "Down" "base", .noat "Down" "changes", .glo "Up", .cls "Up", .mkr "Up", .noat "Up" "client", .noat "Up" "tick", .noat "Up" "inputs", .glo "Client", .cls "Client", .mkr "Client", .noat "Client" "number", .noat "Client" "body", .noat "Client" "last_tick", .noat "Client" "worlds", .noat "Client" "inputs_made", .noat "Client" "inputs", .noat "Client" "bounds", .glo "Peer", .cls "Peer", .mkr "Peer", .noat "Peer" "number", .noat "Peer" "body", .noat "Peer" "known_tick"]
def fa_3 : List He.Fa := [.noat "Peer" "sent", .noat "Peer" "waiting", .glo "Net", .cls "Net", .mkr "Net", .noat "Net" "world", .noat "Net" "tick"]
def df_4 : List He.DefD := [dd_is_time, dd_Between___init__, dd_Between_upper_number, dd_shown_value, dd_value_in_first, dd_value_between, dd_is_body_number, dd_is_body_key, dd_body_of_key, dd_is_place, dd_is_speed, dd_is_push, dd_fits_body_key, dd_followed_key, dd_has_body, dd_put_body, dd_body_values, dd_follow_axis, dd_follow, dd_greatest_divisor, dd_least_terms, dd_is_clock_time, dd_is_drift, dd_Bounds___init__, dd_Bounds_later, dd_Bounds_told, dd_bounds_of_exchange, dd_both_together, dd_Down___init__, dd_Up___init__]
def df_5 : List He.DefD := [dd_changes_between, dd_put_changes, dd_listed, dd_keep_world, dd_Client___init__, dd_Client_is_full, dd_Client_make_input, dd_Client_make_up, dd_Client_take_down, dd_Client_world_of, dd_Client_last_world, dd_Client_guess, dd_Client_knows_later_than, dd_Client_learn_bounds, dd_Client_forget_inputs, dd_Peer___init__]
def fas1 : List He.Fa := fa_0 ++ fa_1 ++ fa_2 ++ fa_3
def dfs1 : List He.DefD := df_4 ++ df_5
def fa_6 : List He.Fa := [.noat "Net" "kept", .noat "Net" "clients", .noat "Net" "peers", .noat "Net" "packets", .noat "Net" "drift", .glo "Shot", .cls "Shot", .mkr "Shot", .noat "Shot" "x", .noat "Shot" "y", .noat "Shot" "dx", .noat "Shot" "dy", .noat "Shot" "squared_step", .glo "is_time", .meth "Between" "upper_number", .glo "shown_value", .glo "value_in_first", .glo "value_between", .glo "is_body_number", .glo "is_body_key", .glo "body_of_key", .glo "is_place", .glo "is_speed", .glo "is_push", .glo "fits_body_key", .glo "followed_key", .glo "has_body", .glo "put_body", .glo "body_values", .glo "follow_axis"]
def fa_7 : List He.Fa := [.glo "follow", .glo "greatest_divisor", .glo "least_terms", .glo "is_clock_time", .glo "is_drift", .meth "Bounds" "later", .meth "Bounds" "told", .glo "bounds_of_exchange", .glo "both_together", .glo "changes_between", .glo "put_changes", .glo "listed", .glo "keep_world", .meth "Client" "is_full", .meth "Client" "make_input", .meth "Client" "make_up", .meth "Client" "take_down", .meth "Client" "world_of", .meth "Client" "last_world", .meth "Client" "guess", .meth "Client" "knows_later_than", .meth "Client" "learn_bounds", .meth "Client" "forget_inputs", .meth "Peer" "make_down", .meth "Peer" "choose_base", .meth "Peer" "take_up", .meth "Peer" "follow_waiting", .meth "Net" "clients_full", .meth "Net" "packets_full", .meth "Net" "body_is_taken"]
def fa_8 : List He.Fa := [.meth "Net" "some_clock_is_known", .meth "Net" "add_client", .meth "Net" "followed_by", .meth "Net" "advance", .meth "Net" "add_packet", .glo "is_direction", .meth "Shot" "way_to", .meth "Shot" "meets", .glo "tell_base", .glo "tell_guess", .glo "render", .glo "are_ticks_around", .glo "judge_shot", .glo "tell_ring", .glo "exchange", .glo "tell_offset", .glo "set_drift", .glo "send_down", .glo "send_up", .glo "deliver", .glo "add_input", .glo "tell_packet", .glo "told_down", .glo "told_value", .glo "told_up", .glo "is_free_key", .glo "make_body", .glo "make_client", .glo "set_key", .glo "unset_key"]
def fa_9 : List He.Fa := [.glo "run_tick", .glo "tell_world", .glo "tell_counts", .glo "answer_call", .glo "answer_first_ten", .glo "answer_last_ten", .glo "answers"]
def df_10 : List He.DefD := [dd_Peer_make_down, dd_Peer_choose_base, dd_Peer_take_up, dd_Peer_follow_waiting, dd_Net___init__, dd_Net_clients_full, dd_Net_packets_full, dd_Net_body_is_taken, dd_Net_some_clock_is_known, dd_Net_add_client, dd_Net_followed_by, dd_Net_advance, dd_Net_add_packet, dd_is_direction, dd_Shot___init__, dd_Shot_way_to, dd_Shot_meets, dd_tell_base, dd_tell_guess, dd_render, dd_are_ticks_around, dd_judge_shot, dd_tell_ring, dd_exchange, dd_tell_offset, dd_set_drift, dd_send_down, dd_send_up, dd_deliver, dd_add_input]
def df_11 : List He.DefD := [dd_tell_packet, dd_told_down, dd_told_value, dd_told_up, dd_is_free_key, dd_make_body, dd_make_client, dd_set_key, dd_unset_key, dd_run_tick, dd_tell_world, dd_tell_counts, dd_answer_call, dd_answer_first_ten, dd_answer_last_ten, dd_answers]
def fas2 : List He.Fa := fa_6 ++ fa_7 ++ fa_8 ++ fa_9
def dfs2 : List He.DefD := df_10 ++ df_11
def nm_0 : List PySem.Str := ["GREATEST_UPPER", "GREATEST_LOWER", "MOST_TICKS_BEYOND", "BODIES", "KEYS_OF_A_BODY", "FIRST_FOLLOWED_KEY", "FURTHEST", "FASTEST", "STRONGEST", "GREATEST_TIME", "GREATEST_DRIFT", "PARTS", "MOST_WORLDS", "MOST_INPUTS", "MOST_SENT", "MOST_FOLLOWED_A_TICK", "GREATEST_TICK", "MOST_KEPT", "MOST_CLIENTS", "MOST_PACKETS", "NO_SUCH", "OUT_OF_RANGE", "TAKEN", "FULL", "LAST_TICK", "NO_TICK_YET", "NOTHING_SHOWN", "NOT_KEPT", "NOTHING_KNOWN", "GREATEST_STEP"]
def nm_1 : List PySem.Str := ["GREATEST_SQUARED_DISTANCE", "GREATEST_KEY", "GREATEST_CLIENT", "FIRST_FREE_KEY", "LAST_FREE_KEY", "GREATEST_FREE_VALUE", "ARGUMENTS", "Between", "Bounds", "Down", "Up", "Client", "Peer", "Net", "Shot", "is_time", "shown_value", "value_in_first", "value_between", "is_body_number", "is_body_key", "body_of_key", "is_place", "is_speed", "is_push", "fits_body_key", "followed_key", "has_body", "put_body", "body_values"]
def nm_2 : List PySem.Str := ["follow_axis", "follow", "greatest_divisor", "least_terms", "is_clock_time", "is_drift", "bounds_of_exchange", "both_together", "changes_between", "put_changes", "listed", "keep_world", "is_direction", "tell_base", "tell_guess", "render", "are_ticks_around", "judge_shot", "tell_ring", "exchange", "tell_offset", "set_drift", "send_down", "send_up", "deliver", "add_input", "tell_packet", "told_down", "told_value", "told_up"]
def nm_3 : List PySem.Str := ["is_free_key", "make_body", "make_client", "set_key", "unset_key", "run_tick", "tell_world", "tell_counts", "answer_call", "answer_first_ten", "answer_last_ten"]
def loose : List PySem.Str := nm_0 ++ nm_1 ++ nm_2 ++ nm_3
def exs (K : PySem.W.Frag) : Bool := (He.tupB K "ARGUMENTS" [.int 5, .int 2, .int 2, .int 1, .int 0, .int 1, .int 1, .int 1, .int 3, .int 0, .int 1, .int 1, .int 4, .int 7, .int 4, .int 2, .int 1, .int 1, .int 0, .int 1] && (decide (PySem.W.findIn K (.ref (He.ga K "Down")) "__class__" = some (some (.builtin "object.__class__"))) && (decide (PySem.W.mroIn K (He.ga K "Down") (.type "object") = some true) && (decide (PySem.W.findIn K (.ref (He.ga K "Up")) "__class__" = some (some (.builtin "object.__class__"))) && (decide (PySem.W.mroIn K (He.ga K "Up") (.type "object") = some true) && (decide (PySem.W.specialIn K (.builtin "object.__class__") "__get__" = some (some (.builtin "getset_descriptor.__get__"))) && (decide (PySem.W.takesIn K (.builtin "object.__class__") = some true) && (decide (PySem.W.kitOne K (.ref (He.ga K "Down")) (.ref (He.ga K "Down")) = some true) && decide (PySem.W.kitOne K (.ref (He.ga K "Up")) (.ref (He.ga K "Down")) = some false)))))))))
abbrev RW : PySem.W.OpenSpec := PySem.Challenge.rw_mirrornet_s01_answers
/-! the objects behind the top, by their places -/
def as_0 : List Addr := [2, 3, 15, 17, 18, 20, 21, 29, 31, 32, 34, 35, 36, 38, 39, 41, 42, 43, 44, 45, 46, 47, 50, 53, 54, 55, 57, 58, 60, 61, 62, 64, 65, 67, 68, 69, 71, 72, 74, 75]
def as_1 : List Addr := [76, 78, 79, 81, 82, 83, 85, 86, 88, 89, 90, 92, 93, 95, 96, 97, 99, 100, 102, 103, 104, 106, 107, 109, 110, 111, 113, 114, 116, 117, 118, 120, 121, 123, 124, 125, 127, 128, 130, 131]
def as_2 : List Addr := [132, 134, 135, 137, 138, 139, 142, 143, 144, 146, 147, 149, 150, 151, 153, 154, 156, 157, 158, 160, 161, 163, 164, 165, 167, 168, 170, 171, 172, 174, 175, 177, 178, 179, 181, 182, 184, 185, 193, 195]
def as_3 : List Addr := [196, 198, 199, 200, 202, 203, 205, 206, 207, 209, 210, 212, 213, 214, 215, 216, 217, 218, 221, 223, 224, 226, 227, 228, 230, 231, 233, 234, 242, 244, 245, 247, 248, 249, 250, 251, 252, 253, 263, 265]
def as_4 : List Addr := [266, 268, 269, 270, 271, 272, 273, 274, 277, 279, 280, 282, 283, 284, 286, 287, 289, 290, 291, 293, 294, 296, 297, 298, 300, 301, 303, 304, 312, 314, 315, 317, 318, 319, 321, 322, 324, 325, 326, 328]
def as_5 : List Addr := [329, 331, 332, 333, 335, 336, 338, 339, 340, 342, 343, 345, 346, 347, 349, 350, 352, 353, 354, 356, 357, 359, 360, 361, 363, 364, 366, 367, 368, 370, 371, 373, 374, 375, 377, 378, 380, 381, 382, 384]
def as_6 : List Addr := [385, 387, 388, 389, 390, 391, 392, 393, 403, 405, 406, 408, 409, 410, 412, 413, 415, 416, 417, 419, 420, 422, 423, 424, 426, 427, 429, 430, 431, 433, 434, 436, 437, 438, 439, 440, 441, 442, 452, 454]
def as_7 : List Addr := [455, 457, 458, 459, 461, 462, 464, 465, 466, 468, 469, 471, 472, 473, 476, 477, 478, 481, 482, 483, 485, 486, 488, 489, 490, 492, 493, 495, 496, 497, 499, 500, 502, 503, 504, 506, 507, 509, 510, 511]
def as_8 : List Addr := [512, 513, 514, 515, 518, 520, 521, 523, 524, 532, 534, 535, 537, 538, 539, 541, 542, 544, 545, 546, 548, 549, 551, 552, 553, 554, 555, 556, 557, 560, 562, 563, 565, 566, 567, 569, 570, 572, 573, 574]
def as_9 : List Addr := [576, 577, 579, 580, 581, 583, 584, 586, 587, 588, 590, 591, 593, 594, 595, 597, 598, 600, 601, 602, 604, 605, 607, 608, 609, 611, 612, 614, 615, 616, 618, 619, 621, 622, 623, 625, 626, 628, 629, 630]
def as_10 : List Addr := [632, 633, 635, 636, 637, 639, 640, 642, 643, 644, 646, 647, 649, 650, 651, 653, 654, 656, 657, 658, 660, 661, 663, 664, 665, 667, 668, 670, 671, 672, 674, 675, 677, 678, 679, 681, 682, 684, 685, 686]
def as_11 : List Addr := [688, 689, 691, 692, 693, 695, 696, 698, 699, 700, 702, 703, 705, 706, 707, 709, 710, 712, 713, 714, 716, 717, 719, 720, 721, 723, 724, 726, 727, 728, 730, 731, 733, 734, 735, 736, 738, 739, 741, 742]
def as_12 : List Addr := [743, 745, 746, 748, 749, 750, 752, 753, 755, 756, 757, 759, 760, 762, 763]
def asL : List Addr := as_0 ++ (as_1 ++ (as_2 ++ (as_3 ++ (as_4 ++ (as_5 ++ (as_6 ++ (as_7 ++ (as_8 ++ (as_9 ++ (as_10 ++ (as_11 ++ (as_12))))))))))))
def hk : PySem.W.Hook where
  α := He.AlD × He.AlD × Bool
  obs := fun s => (He.obsD fas1 dfs1 (He.frT s.heap.get? asL), He.obsD fas2 dfs2 (He.frT s.heap.get? asL), exs (He.frT s.heap.get? asL))
  val := fun _ => (He.valD dfs1, He.valD dfs2, true)
  says := fun _ h => ∃ K : PySem.W.Frag, K.In h ∧ He.SaysD fas1 dfs1 K ∧ He.SaysD fas2 dfs2 K ∧ exs K = true
  of := fun _ _ e => ⟨_, He.frT_in, congrArg (fun z : He.AlD × He.AlD × Bool => z.1) e, congrArg (fun z : He.AlD × He.AlD × Bool => z.2.1) e, congrArg (fun z : He.AlD × He.AlD × Bool => z.2.2) e⟩
  keeps := fun _ _ _ ⟨K, hK, c⟩ k => ⟨K, PySem.W.Frag.In.keeps hK k, c⟩
def ob (s : PySem.W.SharedT) : He.AlD × He.AlD × Bool := (He.obsD fas1 dfs1 (He.frT (HandSHeadRun.getT s) asL), He.obsD fas2 dfs2 (He.frT (HandSHeadRun.getT s) asL), exs (He.frT (HandSHeadRun.getT s) asL))
theorem ob_eq (s : PySem.W.SharedT) : ob s = hk.obs s.abs := by
  have e : HandSHeadRun.getT s = s.abs.heap.get? := funext (HandSHeadRun.getT_eq s)
  unfold ob
  rw [e]; rfl
/-! the top's run, in four looks at its end -/
open HandSHeadRun in
theorem run_a (w : World) (os : OsState) : (endF (stepQ (denQ tabQ) RW.prog w) 6000 RW.prog w os).map (fun s => (looksF RW.prog (PySem.W.boot_heap w.params) s.abs, seenQ (PySem.W.view RW.prog [116]) loose (importedModules RW.prog.main.body) (fun s => PySem.W.xlAt (PySem.W.view RW.prog [116]) [] s && PySem.W.recOk [] s) s.abs)) = some (true, PySem.W.openGood (PySem.W.view RW.prog [116]) loose) := by
  kernel_rfl
open HandSHeadRun in
theorem run_b (w : World) (os : OsState) : (endF (stepQ (denQ tabQ) RW.prog w) 6000 RW.prog w os).map (fun s => He.obsD fas1 dfs1 (He.frT (getT s) asL)) = some (He.valD dfs1) := by
  kernel_rfl
open HandSHeadRun in
theorem run_c (w : World) (os : OsState) : (endF (stepQ (denQ tabQ) RW.prog w) 6000 RW.prog w os).map (fun s => He.obsD fas2 dfs2 (He.frT (getT s) asL)) = some (He.valD dfs2) := by
  kernel_rfl
open HandSHeadRun in
theorem run_d (w : World) (os : OsState) : (endF (stepQ (denQ tabQ) RW.prog w) 6000 RW.prog w os).map (fun s => exs (He.frT (getT s) asL)) = some true := by
  kernel_rfl
theorem looks4 {α β γ δ ε ζ : Type} {o : Option α} {f : α → β} {g : α → γ} {h1 : α → δ} {h2 : α → ε} {h3 : α → ζ} {b : β} {c : γ} {x : δ} {y : ε} {z : ζ} (ha : o.map (fun s => (f s, g s)) = some (b, c)) (hb : o.map h1 = some x) (hc : o.map h2 = some y) (hd : o.map h3 = some z) :
    o.map (fun s => (f s, g s, h1 s, h2 s, h3 s)) = some (b, c, x, y, z) := by
  cases o with
  | none => cases ha
  | some s =>
    obtain ⟨e1, e2⟩ := Prod.mk.inj (Option.some.inj ha)
    have e3 := Option.some.inj hb
    have e4 := Option.some.inj hc
    have e5 := Option.some.inj hd
    show some (f s, g s, h1 s, h2 s, h3 s) = _
    rw [e1, e2, e3, e4, e5]
theorem run (w : World) : HandSHeadRun.RunEqS RW (PySem.W.view RW.prog [116]) hk ob 6000 loose w := fun os => looks4 (run_a w os) (run_b w os) (run_c w os) (run_d w os)
/-! what is asked of the text alone -/
theorem tx_1 : PySem.W.opening RW.prog = PySem.W.plainProg RW.prog.main.scope.names := by kernel_rfl
theorem tx_2 (s : Shared) : fenceModules? RW.prog s = some s := by kernel_rfl
theorem tx_3 : PySem.W.defOf (PySem.W.view RW.prog [116]) RW.name = some (HandSHeadRun.topDef RW.prog 116, []) := by kernel_rfl
theorem tx_4 : RW.wellSaid = true := by decide +kernel
theorem tx_5 : (PySem.W.chainsOk (PySem.W.view RW.prog [116]) && PySem.W.opensWell RW.prog) = true := by decide +kernel
end MN
set_option Elab.async false
/-! The specification's maps (trees of one shape): what get, put, del, pairs, size give. Plain Lean. -/
namespace MN
open Vbwsae (T)
variable {α : Type}
def keys (t : T α) : List Nat := (Vbwsae.pairs t).map (·.1)
def WF : T α → Prop
  | .none => True
  | .leaf k _ => k < 2 ^ 40
  | .fork b l r => WF l ∧ WF r ∧ l ≠ .none ∧ r ≠ .none ∧ ∃ c, (∀ k ∈ keys l, k / 2 ^ b = 2 * c) ∧ (∀ k ∈ keys r, k / 2 ^ b = 2 * c + 1)
theorem keys_none : keys (.none : T α) = [] := rfl
theorem keys_leaf (k : Nat) (x : α) : keys (.leaf k x) = [k] := rfl
theorem keys_fork (b : Nat) (l r : T α) : keys (.fork b l r) = keys l ++ keys r := by
  simp [keys, Vbwsae.pairs]
theorem bit_of {k b c : Nat} (h : k / 2 ^ b = 2 * c) : k.testBit b = false := by
  rw [Nat.testBit_eq_decide_div_mod_eq, h]
  simp
theorem bit_of1 {k b c : Nat} (h : k / 2 ^ b = 2 * c + 1) : k.testBit b = true := by
  rw [Nat.testBit_eq_decide_div_mod_eq, h]
  simp
theorem div_succ (a n : Nat) : a / 2 ^ (n + 1) = a / 2 ^ n / 2 := by
  rw [Nat.pow_succ, Nat.div_div_eq_div_mul]
theorem bit_div (a n : Nat) : a / 2 ^ n = 2 * (a / 2 ^ (n + 1)) + (if a.testBit n = true then 1 else 0) := by
  rw [Nat.testBit_eq_decide_div_mod_eq, div_succ]
  by_cases h : a / 2 ^ n % 2 = 1
  · simp [h]; omega
  · simp [h]; omega
theorem topFrom_spec (a b : Nat) : ∀ n, a / 2 ^ n = b / 2 ^ n → a ≠ b → Vbwsae.topFrom a b n < n ∧ a / 2 ^ (Vbwsae.topFrom a b n + 1) = b / 2 ^ (Vbwsae.topFrom a b n + 1) ∧ a.testBit (Vbwsae.topFrom a b n) ≠ b.testBit (Vbwsae.topFrom a b n)
  | 0, h, ne => by
    simp at h
    exact absurd h ne
  | n + 1, h, ne => by
    rw [Vbwsae.topFrom]
    by_cases c : a.testBit n = b.testBit n
    · have e : (a.testBit n != b.testBit n) = false := by rw [c]; simp
      rw [e]
      simp only [Bool.false_eq_true, if_false]
      have h' : a / 2 ^ n = b / 2 ^ n := by rw [bit_div a n, bit_div b n, h, c]
      obtain ⟨q1, q2, q3⟩ := topFrom_spec a b n h' ne
      exact ⟨by omega, q2, q3⟩
    · have e : (a.testBit n != b.testBit n) = true := by simpa using c
      rw [e]
      simp only [if_true]
      exact ⟨by omega, h, c⟩
theorem topFrom_self (a : Nat) : ∀ n, Vbwsae.topFrom a a n = 0
  | 0 => rfl
  | n + 1 => by
    rw [Vbwsae.topFrom]
    simp [topFrom_self a n]
theorem div_mono {a b n m : Nat} (h : a / 2 ^ n = b / 2 ^ n) (hm : n ≤ m) : a / 2 ^ m = b / 2 ^ m := by
  obtain ⟨d, rfl⟩ := Nat.exists_eq_add_of_le hm
  rw [Nat.pow_add, ← Nat.div_div_eq_div_mul, ← Nat.div_div_eq_div_mul, h]
theorem top_spec {a b : Nat} (ha : a < 2 ^ 40) (hb : b < 2 ^ 40) (ne : a ≠ b) : a / 2 ^ (Vbwsae.top a b + 1) = b / 2 ^ (Vbwsae.top a b + 1) ∧ a.testBit (Vbwsae.top a b) ≠ b.testBit (Vbwsae.top a b) := by
  have e : a / 2 ^ 40 = b / 2 ^ 40 := by rw [Nat.div_eq_of_lt ha, Nat.div_eq_of_lt hb]
  exact (topFrom_spec a b 40 e ne).2
theorem keys_ne : ∀ {t : T α}, WF t → t ≠ .none → keys t ≠ []
  | .none, _, h => absurd rfl h
  | .leaf k x, _, _ => by simp [keys_leaf]
  | .fork b l r, w, _ => by
    rw [keys_fork]
    have := keys_ne w.1 w.2.2.1
    simp [this]
theorem least_mem : ∀ {t : T α}, WF t → t ≠ .none → Vbwsae.leastKey t ∈ keys t
  | .none, _, h => absurd rfl h
  | .leaf k x, _, _ => by simp [keys_leaf, Vbwsae.leastKey]
  | .fork b l r, w, _ => by
    rw [keys_fork, Vbwsae.leastKey]
    exact List.mem_append_left _ (least_mem w.1 w.2.2.1)
theorem keys_lt : ∀ {t : T α}, WF t → ∀ k ∈ keys t, k < 2 ^ 40
  | .none, _, k, h => by simp [keys_none] at h
  | .leaf j x, w, k, h => by
    simp [keys_leaf] at h
    rw [h]; exact w
  | .fork b l r, w, k, h => by
    rw [keys_fork] at h
    rcases List.mem_append.mp h with h | h
    · exact keys_lt w.1 k h
    · exact keys_lt w.2.1 k h
theorem get_none_of : ∀ {t : T α}, WF t → ∀ {k : Nat}, k ∉ keys t → Vbwsae.get t k = none
  | .none, _, k, _ => rfl
  | .leaf j x, _, k, h => by
    simp [keys_leaf] at h
    rw [Vbwsae.get, if_neg (fun e => h e.symm)]
  | .fork b l r, w, k, h => by
    rw [keys_fork] at h
    simp only [List.mem_append, not_or] at h
    rw [Vbwsae.get]
    split
    · exact get_none_of w.2.1 h.2
    · exact get_none_of w.1 h.1
theorem get_fork {b : Nat} {l r : T α} (w : WF (.fork b l r)) (k : Nat) : Vbwsae.get (.fork b l r) k = (Vbwsae.get l k).or (Vbwsae.get r k) := by
  obtain ⟨wl, wr, _, _, c, hl, hr⟩ := w
  rw [Vbwsae.get]
  by_cases h : k.testBit b = true
  · rw [if_pos h, get_none_of wl (k := k) (fun m => by rw [bit_of (hl k m)] at h; cases h)]
    rfl
  · rw [if_neg h, get_none_of wr (k := k) (fun m => h (bit_of1 (hr k m)))]
    cases Vbwsae.get l k <;> rfl
theorem mem_pairs : ∀ {t : T α}, WF t → ∀ {k : Nat} {x : α}, (k, x) ∈ Vbwsae.pairs t ↔ Vbwsae.get t k = some x
  | .none, _, k, x => by simp [Vbwsae.pairs, Vbwsae.get]
  | .leaf j y, _, k, x => by
    simp only [Vbwsae.pairs, Vbwsae.get, List.mem_singleton, Prod.mk.injEq]
    constructor
    · rintro ⟨rfl, rfl⟩; simp
    · intro h
      by_cases e : j = k
      · rw [if_pos e] at h
        exact ⟨e.symm, (Option.some.inj h).symm⟩
      · rw [if_neg e] at h; cases h
  | .fork b l r, w, k, x => by
    obtain ⟨wl, wr, _, _, c, hl, hr⟩ := w
    rw [Vbwsae.pairs, List.mem_append, mem_pairs wl, mem_pairs wr, Vbwsae.get]
    by_cases h : k.testBit b = true
    · rw [if_pos h, get_none_of wl (k := k) (fun m => by rw [bit_of (hl k m)] at h; cases h)]
      simp
    · rw [if_neg h, get_none_of wr (k := k) (fun m => h (bit_of1 (hr k m)))]
      simp
theorem mem_keys {t : T α} (w : WF t) {k : Nat} : k ∈ keys t ↔ (Vbwsae.get t k).isSome = true := by
  unfold keys
  rw [List.mem_map]
  constructor
  · rintro ⟨⟨j, x⟩, h, rfl⟩
    rw [(mem_pairs w).mp h]; rfl
  · intro h
    obtain ⟨x, e⟩ := Option.isSome_iff_exists.mp h
    exact ⟨(k, x), (mem_pairs w).mpr e, rfl⟩
theorem div_lt_of {a b n : Nat} (h : a / 2 ^ n < b / 2 ^ n) : a < b := by
  rcases Nat.lt_or_ge a b with c | c
  · exact c
  · exact absurd (Nat.div_le_div_right (c := 2 ^ n) c) (by omega)
theorem keys_sorted : ∀ {t : T α}, WF t → (keys t).Pairwise (· < ·)
  | .none, _ => by simp [keys_none]
  | .leaf j x, _ => by simp [keys_leaf]
  | .fork b l r, w => by
    obtain ⟨wl, wr, _, _, c, hl, hr⟩ := w
    rw [keys_fork, List.pairwise_append]
    refine ⟨keys_sorted wl, keys_sorted wr, fun x hx y hy => ?_⟩
    refine div_lt_of (n := b) ?_
    rw [hl x hx, hr y hy]; omega
theorem size_pairs : ∀ t : T α, Vbwsae.size t = (Vbwsae.pairs t).length
  | .none => rfl
  | .leaf _ _ => rfl
  | .fork _ l r => by
    rw [Vbwsae.size, Vbwsae.pairs, List.length_append, size_pairs l, size_pairs r]
/-- two trees under a fork -/
theorem under_mem {b k : Nat} {n o : T α} {j : Nat} : j ∈ keys (Vbwsae.under b k n o) ↔ j ∈ keys n ∨ j ∈ keys o := by
  unfold Vbwsae.under
  split <;> rw [keys_fork, List.mem_append]
  exact Or.comm
theorem under_wf {k m : Nat} {x : α} {o : T α} (hk : k < 2 ^ 40) (hm : m < 2 ^ 40) (ne : k ≠ m) (wo : WF o) (no : o ≠ .none) (ho : ∀ j ∈ keys o, j / 2 ^ Vbwsae.top k m = m / 2 ^ Vbwsae.top k m) :
    WF (Vbwsae.under (Vbwsae.top k m) k (.leaf k x) o) := by
  obtain ⟨e1, e2⟩ := top_spec hk hm ne
  generalize Vbwsae.top k m = d at e1 e2 ho
  have ek := bit_div k d
  have em := bit_div m d
  have nl : (T.leaf k x : T α) ≠ .none := fun z => by cases z
  unfold Vbwsae.under
  by_cases h : k.testBit d = true
  · have h' : m.testBit d = false := by
      cases q : m.testBit d
      · rfl
      · exact absurd (h.trans q.symm) e2
    rw [if_pos h]
    rw [if_pos h] at ek
    rw [h'] at em
    simp only [Bool.false_eq_true, if_false] at em
    refine ⟨wo, hk, no, nl, k / 2 ^ (d + 1), fun j hj => ?_, fun j hj => ?_⟩
    · rw [ho j hj, em, e1]; omega
    · simp [keys_leaf] at hj
      rw [hj, ek]
  · have h' : m.testBit d = true := by
      cases q : m.testBit d
      · have h2 : k.testBit d = false := by simpa using h
        exact absurd (h2.trans q.symm) e2
      · rfl
    rw [if_neg h]
    rw [if_neg h] at ek
    rw [if_pos h'] at em
    refine ⟨hk, wo, nl, no, k / 2 ^ (d + 1), fun j hj => ?_, fun j hj => ?_⟩
    · simp [keys_leaf] at hj
      rw [hj, ek]; omega
    · rw [ho j hj, em, e1]
theorem put_ne (k : Nat) (x : α) (t : T α) : Vbwsae.put k x t ≠ .none := by
  cases t with
  | none => intro z; cases z
  | leaf j y =>
    rw [Vbwsae.put]
    split
    · intro z; cases z
    · unfold Vbwsae.under; split <;> intro z <;> cases z
  | fork b l r =>
    rw [Vbwsae.put]
    split
    · unfold Vbwsae.under; split <;> intro z <;> cases z
    · split <;> intro z <;> cases z
theorem put_spec {k : Nat} (hk : k < 2 ^ 40) (x : α) : ∀ {t : T α}, WF t → WF (Vbwsae.put k x t) ∧ ∀ j, j ∈ keys (Vbwsae.put k x t) ↔ j = k ∨ j ∈ keys t
  | .none, _ => ⟨hk, fun j => by simp [Vbwsae.put, keys_leaf, keys_none]⟩
  | .leaf m y, w => by
    rw [Vbwsae.put]
    by_cases e : m = k
    · rw [if_pos e]
      subst e
      exact ⟨hk, fun j => by simp [keys_leaf]⟩
    · rw [if_neg e]
      refine ⟨under_wf hk w (fun z => e z.symm) w (fun z => by cases z) fun j hj => ?_, fun j => ?_⟩
      · simp [keys_leaf] at hj; rw [hj]
      · rw [under_mem, keys_leaf, List.mem_singleton]
  | .fork b l r, w => by
    have wf := w
    obtain ⟨wl, wr, nl, nr, c, hl, hr⟩ := w
    have lm := least_mem wl nl
    have ll := keys_lt wl _ lm
    have lq := hl _ lm
    have allq : ∀ j ∈ keys (T.fork b l r), j / 2 ^ (b + 1) = c := fun j hj => by
      rw [keys_fork] at hj
      rw [div_succ]
      rcases List.mem_append.mp hj with h | h
      · rw [hl j h]; omega
      · rw [hr j h]; omega
    have lq' : Vbwsae.leastKey l / 2 ^ (b + 1) = c := by rw [div_succ, lq]; omega
    rw [Vbwsae.put]
    by_cases cd : b < Vbwsae.top k (Vbwsae.leastKey l)
    · rw [if_pos cd]
      have ne : k ≠ Vbwsae.leastKey l := fun z => by
        rw [← z] at cd
        have : Vbwsae.top k k = 0 := topFrom_self k 40
        omega
      refine ⟨under_wf hk ll ne wf (fun z => by cases z) fun j hj => ?_, fun j => ?_⟩
      · refine div_mono (n := b + 1) ?_ (by omega)
        rw [allq j hj, lq']
      · rw [under_mem, keys_leaf, List.mem_singleton]
    · rw [if_neg cd]
      have kq : k / 2 ^ (b + 1) = c := by
        by_cases ne : k = Vbwsae.leastKey l
        · rw [ne]; exact lq'
        · obtain ⟨e1, _⟩ := top_spec hk ll ne
          rw [← lq']
          exact div_mono e1 (by omega)
      have kb := bit_div k b
      rw [kq] at kb
      by_cases h : k.testBit b = true
      · rw [if_pos h]
        rw [if_pos h] at kb
        obtain ⟨w1, m1⟩ := put_spec hk x wr
        refine ⟨⟨wl, w1, nl, put_ne k x r, c, hl, fun j hj => ?_⟩, fun j => ?_⟩
        · rcases (m1 j).mp hj with e | e
          · rw [e]; exact kb
          · exact hr j e
        · rw [keys_fork, keys_fork, List.mem_append, List.mem_append, m1 j]
          constructor
          · rintro (a | a | a)
            · exact Or.inr (Or.inl a)
            · exact Or.inl a
            · exact Or.inr (Or.inr a)
          · rintro (a | a | a)
            · exact Or.inr (Or.inl a)
            · exact Or.inl a
            · exact Or.inr (Or.inr a)
      · rw [if_neg h]
        rw [if_neg h] at kb
        obtain ⟨w1, m1⟩ := put_spec hk x wl
        refine ⟨⟨w1, wr, put_ne k x l, nr, c, fun j hj => ?_, hr⟩, fun j => ?_⟩
        · rcases (m1 j).mp hj with e | e
          · rw [e]; exact kb
          · exact hl j e
        · rw [keys_fork, keys_fork, List.mem_append, List.mem_append, m1 j, or_assoc]
theorem put_wf {k : Nat} (hk : k < 2 ^ 40) {x : α} {t : T α} (w : WF t) : WF (Vbwsae.put k x t) := (put_spec hk x w).1
theorem get_under {b k : Nat} {x : α} {o : T α} (w : WF (Vbwsae.under b k (.leaf k x) o)) (hn : k ∉ keys o) (j : Nat) : Vbwsae.get (Vbwsae.under b k (.leaf k x) o) j = if j = k then some x else Vbwsae.get o j := by
  have go : ∀ {t : T α}, WF t → k ∉ keys t → Vbwsae.get t k = none := fun w h => get_none_of w h
  unfold Vbwsae.under at w ⊢
  split at w
  · rename_i h
    rw [if_pos h, get_fork w]
    by_cases e : j = k
    · subst e
      rw [if_pos rfl, go w.1 hn]
      simp [Vbwsae.get]
    · rw [if_neg e]
      have : Vbwsae.get (T.leaf k x) j = none := by rw [Vbwsae.get, if_neg (fun z => e z.symm)]
      rw [this]; cases Vbwsae.get o j <;> rfl
  · rename_i h
    rw [if_neg h, get_fork w]
    by_cases e : j = k
    · subst e
      rw [if_pos rfl]
      simp [Vbwsae.get]
    · rw [if_neg e]
      have : Vbwsae.get (T.leaf k x) j = none := by rw [Vbwsae.get, if_neg (fun z => e z.symm)]
      rw [this]; rfl
theorem get_put {k : Nat} (hk : k < 2 ^ 40) (x : α) : ∀ {t : T α}, WF t → ∀ j, Vbwsae.get (Vbwsae.put k x t) j = if j = k then some x else Vbwsae.get t j
  | .none, _, j => by
    simp only [Vbwsae.put, Vbwsae.get]
    by_cases e : j = k
    · rw [if_pos e, if_pos e.symm]
    · rw [if_neg e, if_neg (fun z => e z.symm)]
  | .leaf m y, w, j => by
    have wp := put_wf hk (x := x) w
    rw [Vbwsae.put] at wp ⊢
    by_cases e : m = k
    · rw [if_pos e]
      subst e
      simp only [Vbwsae.get]
      by_cases e : j = m
      · rw [if_pos e, if_pos e.symm]
      · rw [if_neg e, if_neg (fun z => e z.symm), if_neg (fun z => e z.symm)]
    · rw [if_neg e] at wp ⊢
      exact get_under wp (by simp [keys_leaf]; exact fun z => e z.symm) j
  | .fork b l r, w, j => by
    have wf := w
    have wp := put_wf hk (x := x) w
    obtain ⟨wl, wr, nl, nr, c, hl, hr⟩ := w
    have lm := least_mem wl nl
    have ll := keys_lt wl _ lm
    have lq := hl _ lm
    rw [Vbwsae.put] at wp ⊢
    by_cases cd : b < Vbwsae.top k (Vbwsae.leastKey l)
    · rw [if_pos cd] at wp ⊢
      refine get_under wp (fun hm => ?_) j
      have ne : k ≠ Vbwsae.leastKey l := fun z => by
        rw [← z] at cd
        have : Vbwsae.top k k = 0 := topFrom_self k 40
        omega
      have allq : k / 2 ^ (b + 1) = c := by
        rw [keys_fork] at hm
        rw [div_succ]
        rcases List.mem_append.mp hm with h | h
        · rw [hl k h]; omega
        · rw [hr k h]; omega
      have lq' : Vbwsae.leastKey l / 2 ^ (b + 1) = c := by rw [div_succ, lq]; omega
      obtain ⟨_, e2⟩ := top_spec hk ll ne
      have e3 : k / 2 ^ (Vbwsae.top k (Vbwsae.leastKey l)) = Vbwsae.leastKey l / 2 ^ (Vbwsae.top k (Vbwsae.leastKey l)) := div_mono (n := b + 1) (allq.trans lq'.symm) (by omega)
      refine e2 ?_
      rw [Nat.testBit_eq_decide_div_mod_eq, Nat.testBit_eq_decide_div_mod_eq, e3]
    · rw [if_neg cd]
      by_cases h : k.testBit b = true
      · rw [if_pos h]
        simp only [Vbwsae.get]
        rw [get_put hk x wr]
        by_cases e : j = k
        · subst e; rw [if_pos rfl, if_pos h]; simp
        · rw [if_neg e]; simp only [if_neg e]
      · rw [if_neg h]
        simp only [Vbwsae.get]
        rw [get_put hk x wl]
        by_cases e : j = k
        · subst e; rw [if_pos rfl, if_neg h]; simp
        · rw [if_neg e]; simp only [if_neg e]
theorem joined_none_r (b : Nat) (l : T α) : Vbwsae.joined b l .none = l := by cases l <;> rfl
theorem joined_none_l (b : Nat) (r : T α) : Vbwsae.joined b .none r = r := by cases r <;> rfl
theorem joined_fork (b : Nat) {l r : T α} (hl : l ≠ .none) (hr : r ≠ .none) : Vbwsae.joined b l r = .fork b l r := by
  cases l <;> cases r <;> first | rfl | exact absurd rfl hl | exact absurd rfl hr
theorem joined_wf {b c : Nat} {l r : T α} (wl : WF l) (wr : WF r) (hl : ∀ k ∈ keys l, k / 2 ^ b = 2 * c) (hr : ∀ k ∈ keys r, k / 2 ^ b = 2 * c + 1) :
    WF (Vbwsae.joined b l r) ∧ (∀ j, j ∈ keys (Vbwsae.joined b l r) ↔ j ∈ keys l ∨ j ∈ keys r) ∧ ∀ j, Vbwsae.get (Vbwsae.joined b l r) j = (Vbwsae.get l j).or (Vbwsae.get r j) := by
  by_cases el : l = .none
  · subst el
    rw [joined_none_l]
    exact ⟨wr, fun j => by simp [keys_none], fun j => by simp [Vbwsae.get]⟩
  · by_cases er : r = .none
    · subst er
      rw [joined_none_r]
      exact ⟨wl, fun j => by simp [keys_none], fun j => by simp [Vbwsae.get]⟩
    · rw [joined_fork b el er]
      have w : WF (T.fork b l r) := ⟨wl, wr, el, er, c, hl, hr⟩
      exact ⟨w, fun j => by rw [keys_fork, List.mem_append], fun j => get_fork w j⟩
theorem del_spec (k : Nat) : ∀ {t : T α}, WF t → WF (Vbwsae.del k t) ∧ (∀ j, j ∈ keys (Vbwsae.del k t) → j ∈ keys t) ∧ ∀ j, Vbwsae.get (Vbwsae.del k t) j = if j = k then none else Vbwsae.get t j
  | .none, _ => ⟨trivial, fun j h => h, fun j => by simp [Vbwsae.del, Vbwsae.get]⟩
  | .leaf m y, w => by
    rw [Vbwsae.del]
    by_cases e : m = k
    · subst e
      rw [if_pos rfl]
      refine ⟨trivial, fun j h => by simp [keys_none] at h, fun j => ?_⟩
      by_cases e : j = m
      · subst e; simp [Vbwsae.get]
      · simp only [Vbwsae.get, if_neg e, if_neg (fun z : m = j => e z.symm)]
    · rw [if_neg e]
      refine ⟨w, fun j h => h, fun j => ?_⟩
      by_cases e' : j = k
      · subst e'; simp [Vbwsae.get, e]
      · rw [if_neg e']
  | .fork b l r, w => by
    have wf := w
    obtain ⟨wl, wr, nl, nr, c, hl, hr⟩ := w
    rw [Vbwsae.del]
    by_cases h : k.testBit b = true
    · rw [if_pos h]
      obtain ⟨w1, m1, g1⟩ := del_spec k wr
      obtain ⟨w2, m2, g2⟩ := joined_wf (c := c) wl w1 hl (fun j hj => hr j (m1 j hj))
      refine ⟨w2, fun j hj => ?_, fun j => ?_⟩
      · rw [keys_fork, List.mem_append]
        exact ((m2 j).mp hj).imp id (m1 j)
      · rw [g2, g1, get_fork wf]
        by_cases e : j = k
        · subst e
          rw [if_pos rfl, if_pos rfl, get_none_of wl (k := j) (fun m => by rw [bit_of (hl j m)] at h; cases h)]
          rfl
        · rw [if_neg e, if_neg e]
    · rw [if_neg h]
      obtain ⟨w1, m1, g1⟩ := del_spec k wl
      obtain ⟨w2, m2, g2⟩ := joined_wf (c := c) w1 wr (fun j hj => hl j (m1 j hj)) hr
      refine ⟨w2, fun j hj => ?_, fun j => ?_⟩
      · rw [keys_fork, List.mem_append]
        exact ((m2 j).mp hj).imp (m1 j) id
      · rw [g2, g1, get_fork wf]
        by_cases e : j = k
        · subst e
          rw [if_pos rfl, if_pos rfl, get_none_of wr (k := j) (fun m => h (bit_of1 (hr j m)))]
          rfl
        · rw [if_neg e, if_neg e]
theorem del_wf {k : Nat} {t : T α} (w : WF t) : WF (Vbwsae.del k t) := (del_spec k w).1
theorem get_del {k : Nat} {t : T α} (w : WF t) (j : Nat) : Vbwsae.get (Vbwsae.del k t) j = if j = k then none else Vbwsae.get t j := (del_spec k w).2.2 j
theorem get_nothing (k : Nat) : Vbwsae.get (.none : T α) k = none := rfl
theorem none_wf : WF (.none : T α) := trivial
end MN
set_option Elab.async false
/-! Differences of two maps: the list by rising keys; put to a map. -/
namespace MN
open Vbwsae (T Change)
variable {α : Type}
def look : List (Nat × α) → Nat → Option α
  | [], _ => none
  | p :: l, k => if p.1 = k then some p.2 else look l k
theorem look_none {k : Nat} : ∀ {l : List (Nat × α)}, (∀ p ∈ l, p.1 ≠ k) → look l k = none
  | [], _ => rfl
  | p :: l, h => by
    rw [look, if_neg (h p List.mem_cons_self)]
    exact look_none fun q hq => h q (List.mem_cons_of_mem _ hq)
theorem look_mem {k : Nat} {x : α} : ∀ {l : List (Nat × α)}, (l.map (·.1)).Pairwise (· < ·) → ((k, x) ∈ l ↔ look l k = some x)
  | [], _ => by simp [look]
  | p :: l, h => by
    rw [List.map_cons, List.pairwise_cons] at h
    rw [look, List.mem_cons]
    by_cases e : p.1 = k
    · rw [if_pos e]
      constructor
      · rintro (h1 | h1)
        · rw [← h1]
        · exact absurd (h.1 k (List.mem_map.mpr ⟨_, h1, rfl⟩)) (by omega)
      · intro h1
        left
        rw [← Option.some.inj h1, ← e]
    · rw [if_neg e, ← look_mem h.2]
      constructor
      · rintro (h1 | h1)
        · rw [← h1] at e; exact absurd rfl e
        · exact h1
      · exact Or.inr
theorem look_pairs {t : T α} (w : WF t) (k : Nat) : look (Vbwsae.pairs t) k = Vbwsae.get t k := by
  have h : ∀ x, look (Vbwsae.pairs t) k = some x ↔ Vbwsae.get t k = some x := fun x => by
    rw [← look_mem (keys_sorted w), mem_pairs w]
  cases e : Vbwsae.get t k with
  | some x => exact (h x).mpr e
  | none =>
    cases e' : look (Vbwsae.pairs t) k with
    | none => rfl
    | some x => rw [(h x).mp e'] at e; cases e
/-- strictly rising rows with the same members are one -/
theorem rows_ext : ∀ {a b : List (Nat × α)}, (a.map (·.1)).Pairwise (· < ·) → (b.map (·.1)).Pairwise (· < ·) → (∀ p, p ∈ a ↔ p ∈ b) → a = b
  | [], [], _, _, _ => rfl
  | [], q :: b, _, _, h => absurd ((h q).mpr List.mem_cons_self) (by simp)
  | p :: a, [], _, _, h => absurd ((h p).mp List.mem_cons_self) (by simp)
  | p :: a, q :: b, ha, hb, h => by
    rw [List.map_cons, List.pairwise_cons] at ha hb
    have e : p = q := by
      rcases List.mem_cons.mp ((h p).mp List.mem_cons_self) with e | e
      · exact e
      · rcases List.mem_cons.mp ((h q).mpr List.mem_cons_self) with e' | e'
        · exact e'.symm
        · have h1 := ha.1 q.1 (List.mem_map.mpr ⟨q, e', rfl⟩)
          have h2 := hb.1 p.1 (List.mem_map.mpr ⟨p, e, rfl⟩)
          omega
    subst e
    congr 1
    refine rows_ext ha.2 hb.2 fun x => ?_
    constructor
    · intro hx
      rcases List.mem_cons.mp ((h x).mp (List.mem_cons_of_mem _ hx)) with e | e
      · have := ha.1 x.1 (List.mem_map.mpr ⟨x, hx, rfl⟩)
        rw [e] at this; omega
      · exact e
    · intro hx
      rcases List.mem_cons.mp ((h x).mpr (List.mem_cons_of_mem _ hx)) with e | e
      · have := hb.1 x.1 (List.mem_map.mpr ⟨x, hx, rfl⟩)
        rw [e] at this; omega
      · exact e
theorem pairs_ext {a b : T α} (wa : WF a) (wb : WF b) (h : ∀ k, Vbwsae.get a k = Vbwsae.get b k) : Vbwsae.pairs a = Vbwsae.pairs b :=
  rows_ext (keys_sorted wa) (keys_sorted wb) fun ⟨k, x⟩ => by rw [mem_pairs wa, mem_pairs wb, h]
/-- what changed at a key -/
def chg (u v : Nat → Option Int) (k : Nat) : Option (Change Int) := if u k = v k then none else some ⟨k, u k, v k⟩
theorem row_head {k : Nat} {ks : List Nat} (hk : (k :: ks).Pairwise (· < ·)) {l : List (Nat × α)} (hl : (l.map (·.1)).Pairwise (· < ·)) (hs : ∀ p ∈ l, p.1 ∈ k :: ks) :
    (∃ (x : α) (l' : List (Nat × α)), l = (k, x) :: l' ∧ look l k = some x ∧ (∀ p ∈ l', p.1 ∈ ks) ∧ (l'.map (·.1)).Pairwise (· < ·) ∧ (∀ j ∈ ks, look l j = look l' j)) ∨ ((∀ p ∈ l, p.1 ∈ ks) ∧ (∀ p ∈ l, k < p.1) ∧ look l k = none) := by
  rw [List.pairwise_cons] at hk
  cases l with
  | nil => right; exact ⟨fun p h => absurd h (by simp), fun p h => absurd h (by simp), rfl⟩
  | cons p l' =>
    rw [List.map_cons, List.pairwise_cons] at hl
    rcases List.mem_cons.mp (hs p List.mem_cons_self) with e | e
    · left
      refine ⟨p.2, l', by rw [← e], by rw [look, if_pos e], fun q hq => ?_, hl.2, fun j hj => ?_⟩
      · rcases List.mem_cons.mp (hs q (List.mem_cons_of_mem _ hq)) with e' | e'
        · have := hl.1 q.1 (List.mem_map.mpr ⟨q, hq, rfl⟩)
          omega
        · exact e'
      · have := hk.1 j hj
        rw [look, if_neg (by omega)]
    · right
      have h1 := hk.1 _ e
      have h2 : ∀ q ∈ l', p.1 < q.1 := fun q hq => hl.1 q.1 (List.mem_map.mpr ⟨q, hq, rfl⟩)
      refine ⟨fun q hq => ?_, fun q hq => ?_, look_none fun q hq => ?_⟩
      · rcases List.mem_cons.mp (hs q hq) with e' | e'
        · rcases List.mem_cons.mp hq with e2 | e2
          · rw [e2]; exact e
          · have := h2 q e2; omega
        · exact e'
      · rcases List.mem_cons.mp hq with e2 | e2
        · rw [e2]; exact h1
        · have := h2 q e2; omega
      · rcases List.mem_cons.mp hq with e2 | e2
        · rw [e2]; omega
        · have := h2 q e2; omega
theorem fm_congr {β γ : Type} {f g : β → Option γ} : ∀ {l : List β}, (∀ x ∈ l, f x = g x) → l.filterMap f = l.filterMap g
  | [], _ => rfl
  | x :: l, h => by
    rw [List.filterMap_cons, List.filterMap_cons, h x List.mem_cons_self, fm_congr fun y hy => h y (List.mem_cons_of_mem _ hy)]
theorem dp_nil (n : Nat) (b : List (Nat × Int)) : Vbwsae.diffPairs Vbwsah.same (n + 1) [] b = b.map fun p => { key := p.1, old := none, new := some p.2 } := by
  rw [Vbwsae.diffPairs]
theorem dp_nil2 (n : Nat) (a : List (Nat × Int)) : Vbwsae.diffPairs Vbwsah.same (n + 1) a [] = a.map fun p => { key := p.1, old := some p.2, new := none } := by
  cases a with
  | nil => rw [Vbwsae.diffPairs]; rfl
  | cons p a => rw [Vbwsae.diffPairs]; intro z; cases z
theorem diffPairs_eq : ∀ (ks : List Nat) (n : Nat) (a b : List (Nat × Int)), ks.Pairwise (· < ·) → (a.map (·.1)).Pairwise (· < ·) → (b.map (·.1)).Pairwise (· < ·) →
    (∀ p ∈ a, p.1 ∈ ks) → (∀ p ∈ b, p.1 ∈ ks) → a.length + b.length < n → Vbwsae.diffPairs Vbwsah.same n a b = ks.filterMap (chg (look a) (look b))
  | [], n, a, b, _, _, _, ha, hb, hn => by
    cases a with
    | cons p a => exact absurd (ha p List.mem_cons_self) (by simp)
    | nil =>
      cases b with
      | cons p b => exact absurd (hb p List.mem_cons_self) (by simp)
      | nil =>
        obtain ⟨m, rfl⟩ : ∃ m, n = m + 1 := ⟨n - 1, by omega⟩
        rw [dp_nil]; rfl
  | k :: ks, n, a, b, hk, sa, sb, ha, hb, hn => by
    obtain ⟨m, rfl⟩ : ∃ m, n = m + 1 := ⟨n - 1, by omega⟩
    have hk' := (List.pairwise_cons.mp hk).2
    have hk1 := (List.pairwise_cons.mp hk).1
    rw [List.filterMap_cons]
    rcases row_head hk sa ha with ⟨x, a', rfl, la, ha', sa', ea⟩ | ⟨ha', ga, la⟩
    · rcases row_head hk sb hb with ⟨y, b', rfl, lb, hb', sb', eb⟩ | ⟨hb', gb, lb⟩
      · have ih := diffPairs_eq ks m a' b' hk' sa' sb' ha' hb' (by simp only [List.length_cons] at hn; omega)
        have ec : ks.filterMap (chg (look ((k, x) :: a')) (look ((k, y) :: b'))) = ks.filterMap (chg (look a') (look b')) := fm_congr fun j hj => by unfold chg; rw [ea j hj, eb j hj]
        rw [Vbwsae.diffPairs, if_neg (by simp), if_neg (by simp), ec, ih]
        unfold chg
        rw [la, lb]
        by_cases e : x = y
        · have : Vbwsah.same x y = true := by simp [Vbwsah.same, e]
          rw [if_pos this, if_pos (by rw [e])]
        · have : ¬ Vbwsah.same x y = true := by simp [Vbwsah.same, e]
          rw [if_neg this, if_neg (by simp [e])]
      · have ih := diffPairs_eq ks m a' b hk' sa' sb ha' hb' (by simp only [List.length_cons] at hn; omega)
        have ec : ks.filterMap (chg (look ((k, x) :: a')) (look b)) = ks.filterMap (chg (look a') (look b)) := fm_congr fun j hj => by unfold chg; rw [ea j hj]
        rw [ec]
        cases b with
        | nil =>
          rw [dp_nil2, List.map_cons]
          obtain ⟨m', rfl⟩ : ∃ m', m = m' + 1 := ⟨m - 1, by simp only [List.length_cons] at hn; omega⟩
          rw [dp_nil2] at ih
          rw [ih]
          unfold chg
          rw [la, lb, if_neg (by simp)]
        | cons q b' =>
          have g := gb q List.mem_cons_self
          rw [Vbwsae.diffPairs, if_pos g, ih]
          unfold chg
          rw [la, lb, if_neg (by simp)]
    · rcases row_head hk sb hb with ⟨y, b', rfl, lb, hb', sb', eb⟩ | ⟨hb', gb, lb⟩
      · have ih := diffPairs_eq ks m a b' hk' sa sb' ha' hb' (by simp only [List.length_cons] at hn; omega)
        have ec : ks.filterMap (chg (look a) (look ((k, y) :: b'))) = ks.filterMap (chg (look a) (look b')) := fm_congr fun j hj => by unfold chg; rw [eb j hj]
        rw [ec]
        cases a with
        | nil =>
          rw [dp_nil, List.map_cons]
          obtain ⟨m', rfl⟩ : ∃ m', m = m' + 1 := ⟨m - 1, by simp only [List.length_cons] at hn; omega⟩
          rw [dp_nil] at ih
          rw [ih]
          unfold chg
          rw [la, lb, if_neg (by simp)]
        | cons q a' =>
          have g := ga q List.mem_cons_self
          rw [Vbwsae.diffPairs, if_neg (by show ¬ q.1 < k; omega), if_pos g, ih]
          unfold chg
          rw [la, lb, if_neg (by simp)]
      · rw [diffPairs_eq ks (m + 1) a b hk' sa sb ha' hb' hn]
        have : chg (look a) (look b) k = none := by unfold chg; rw [la, lb, if_pos rfl]
        rw [this]
/-- **the difference of two maps**, over any rising row of keys that has all of both -/
theorem diff_eq {a b : T Int} (wa : WF a) (wb : WF b) {ks : List Nat} (hk : ks.Pairwise (· < ·)) (h : ∀ k, (Vbwsae.get a k).isSome = true ∨ (Vbwsae.get b k).isSome = true → k ∈ ks) :
    Vbwsae.diff Vbwsah.same a b = ks.filterMap (chg (Vbwsae.get a) (Vbwsae.get b)) := by
  unfold Vbwsae.diff
  rw [diffPairs_eq ks _ _ _ hk (keys_sorted wa) (keys_sorted wb) (fun p hp => h _ (Or.inl ?_)) (fun p hp => h _ (Or.inr ?_)) (by rw [size_pairs, size_pairs]; omega)]
  · refine fm_congr fun k _ => ?_
    unfold chg
    rw [look_pairs wa, look_pairs wb]
  · rw [(mem_pairs wa (k := p.1) (x := p.2)).mp hp]; rfl
  · rw [(mem_pairs wb (k := p.1) (x := p.2)).mp hp]; rfl
theorem chg_old {u v : Nat → Option Int} {k : Nat} {c : Change Int} (h : chg u v k = some c) : c.key = k ∧ c.old = u k ∧ c.new = v k ∧ u k ≠ v k := by
  unfold chg at h
  split at h
  · cases h
  · rename_i ne
    cases h
    exact ⟨rfl, rfl, rfl, ne⟩
theorem sameOpt_refl : ∀ o : Option Int, Vbwsae.sameOpt Vbwsah.same o o = true
  | none => rfl
  | some x => by simp [Vbwsae.sameOpt, Vbwsah.same]
theorem fold_chg {u v : Nat → Option Int} : ∀ (ks : List Nat) (t : T Int), WF t → (∀ k ∈ ks, k < 2 ^ 40) → (∀ k ∈ ks, Vbwsae.get t k = u k) → ks.Pairwise (· < ·) →
    WF ((ks.filterMap (chg u v)).foldl (fun t c => Vbwsae.change c t) t) ∧ ∀ j, Vbwsae.get ((ks.filterMap (chg u v)).foldl (fun t c => Vbwsae.change c t) t) j = if j ∈ ks then v j else Vbwsae.get t j
  | [], t, w, _, _, _ => ⟨w, fun j => by simp⟩
  | k :: ks, t, w, hb, hu, hs => by
    have hs' := List.pairwise_cons.mp hs
    have kn : k ∉ ks := fun m => absurd (hs'.1 k m) (by omega)
    rw [List.filterMap_cons]
    cases e : chg u v k with
    | none =>
      have ev : u k = v k := by
        unfold chg at e
        split at e
        · assumption
        · cases e
      obtain ⟨w1, g1⟩ := fold_chg ks t w (fun j hj => hb j (List.mem_cons_of_mem _ hj)) (fun j hj => hu j (List.mem_cons_of_mem _ hj)) hs'.2
      refine ⟨w1, fun j => ?_⟩
      rw [g1 j]
      by_cases ej : j = k
      · subst ej
        rw [if_neg kn, if_pos List.mem_cons_self, hu j List.mem_cons_self, ev]
      · by_cases m : j ∈ ks
        · rw [if_pos m, if_pos (List.mem_cons_of_mem _ m)]
        · rw [if_neg m, if_neg (by simp [ej, m])]
    | some c =>
      obtain ⟨e1, e2, e3, _⟩ := chg_old e
      have kb := hb k List.mem_cons_self
      have step : WF (Vbwsae.change c t) ∧ ∀ j, Vbwsae.get (Vbwsae.change c t) j = if j = k then v k else Vbwsae.get t j := by
        unfold Vbwsae.change
        rw [e3, e1]
        cases ev : v k with
        | none => exact ⟨del_wf w, get_del w⟩
        | some x => exact ⟨put_wf kb w, get_put kb x w⟩
      rw [List.foldl_cons]
      have hu' : ∀ j ∈ ks, Vbwsae.get (Vbwsae.change c t) j = u j := fun j hj => by
        rw [step.2 j, if_neg (fun z : j = k => kn (z ▸ hj))]
        exact hu j (List.mem_cons_of_mem _ hj)
      obtain ⟨w1, g1⟩ := fold_chg ks (Vbwsae.change c t) step.1 (fun j hj => hb j (List.mem_cons_of_mem _ hj)) hu' hs'.2
      refine ⟨w1, fun j => ?_⟩
      rw [g1 j]
      by_cases ej : j = k
      · subst ej
        rw [if_neg kn, if_pos List.mem_cons_self, step.2, if_pos rfl]
      · by_cases m : j ∈ ks
        · rw [if_pos m, if_pos (List.mem_cons_of_mem _ m)]
        · rw [if_neg m, if_neg (by simp [ej, m]), step.2, if_neg ej]
/-- the keys of both, rising -/
theorem bothKeys {a b : T Int} (wa : WF a) (wb : WF b) : ∃ ks : List Nat, ks.Pairwise (· < ·) ∧ (∀ k ∈ ks, k < 2 ^ 40) ∧ ∀ k, k ∈ ks ↔ (Vbwsae.get a k).isSome = true ∨ (Vbwsae.get b k).isSome = true := by
  obtain ⟨n, hn⟩ : ∃ n : Nat, n = 2 ^ 40 := ⟨_, rfl⟩
  refine ⟨(List.range n).filter fun k => (Vbwsae.get a k).isSome || (Vbwsae.get b k).isSome, List.Pairwise.filter _ List.pairwise_lt_range, fun k hk => ?_, fun k => ?_⟩
  · rw [← hn]
    exact List.mem_range.mp (List.mem_filter.mp hk).1
  · rw [List.mem_filter, List.mem_range, Bool.or_eq_true]
    refine ⟨fun h => h.2, fun h => ⟨?_, h⟩⟩
    rw [hn]
    rcases h with h | h
    · exact keys_lt wa _ ((mem_keys wa).mpr h)
    · exact keys_lt wb _ ((mem_keys wb).mpr h)
/-- **a difference fits the map that it begins with, and gives the other** -/
theorem apply_diff {a b t : T Int} (wa : WF a) (wb : WF b) (wt : WF t) (e : ∀ k, Vbwsae.get t k = Vbwsae.get a k) :
    ∃ v, Vbwsae.apply Vbwsah.same (Vbwsae.diff Vbwsah.same a b) t = some v ∧ WF v ∧ ∀ k, Vbwsae.get v k = Vbwsae.get b k := by
  obtain ⟨ks, sk, bk, mk⟩ := bothKeys wa wb
  have hd := diff_eq wa wb sk (fun k h => (mk k).mpr h)
  have hall : (Vbwsae.diff Vbwsah.same a b).all (Vbwsae.fits Vbwsah.same t) = true := by
    rw [List.all_eq_true]
    intro c hc
    rw [hd] at hc
    obtain ⟨k, _, hk⟩ := List.mem_filterMap.mp hc
    obtain ⟨e1, e2, _, _⟩ := chg_old hk
    unfold Vbwsae.fits
    rw [e1, e2, e k]
    exact sameOpt_refl _
  obtain ⟨w1, g1⟩ := fold_chg (u := Vbwsae.get a) (v := Vbwsae.get b) ks t wt bk (fun k _ => e k) sk
  refine ⟨_, by unfold Vbwsae.apply; rw [if_pos hall], ?_, fun k => ?_⟩
  · rw [hd]; exact w1
  · rw [hd, g1 k]
    by_cases m : k ∈ ks
    · rw [if_pos m]
    · rw [if_neg m, e k]
      have := fun h => m ((mk k).mpr h)
      have h1 : Vbwsae.get a k = none := by
        cases q : Vbwsae.get a k with
        | none => rfl
        | some x => exact absurd (Or.inl (by rw [q]; rfl)) this
      have h2 : Vbwsae.get b k = none := by
        cases q : Vbwsae.get b k with
        | none => rfl
        | some x => exact absurd (Or.inr (by rw [q]; rfl)) this
      rw [h1, h2]
end MN
set_option Elab.async false
/-! Worlds that the server may have: keys, ranges; a body follows inputs. -/
namespace MN
open Vbwsae (T Change)
open Vbwsah (World Input Numbered Known Client State Packet Ring)
def okKey (k : Nat) : Prop := k < 32 ∨ (1000 ≤ k ∧ k < 1008) ∨ (2000 ≤ k ∧ k < 2064)
theorem okKey_lt {k : Nat} (h : okKey k) : k < 2064 := by unfold okKey at h; omega
theorem okKey_big {k : Nat} (h : okKey k) : k < 2 ^ 40 := by have := okKey_lt h; omega
def okVal (c : Nat) (k : Nat) (v : Int) : Prop :=
  (k < 32 → k % 4 < 2 → 0 ≤ v ∧ v ≤ 1000) ∧ (k < 32 → 2 ≤ k % 4 → -20 ≤ v ∧ v ≤ 20) ∧ (1000 ≤ k → k < 1008 → 0 ≤ v ∧ v ≤ 4 * (c : Int)) ∧ (2000 ≤ k → -1000000 ≤ v ∧ v ≤ 1000000)
structure GoodW (c : Nat) (w : World) : Prop where
  wf : WF w
  key : ∀ k v, Vbwsae.get w k = some v → okKey k
  val : ∀ k v, Vbwsae.get w k = some v → okVal c k v
  body : ∀ b j, b < 8 → j < 4 → (Vbwsae.get w (4 * b + j)).isSome = (Vbwsae.get w (1000 + b)).isSome
theorem GoodW.none (c : Nat) : GoodW c (.none : World) := ⟨trivial, fun k v h => by simp [Vbwsae.get] at h, fun k v h => by simp [Vbwsae.get] at h, fun b j _ _ => rfl⟩
theorem okVal.mono {c d k : Nat} {v : Int} (h : okVal c k v) (hd : c ≤ d) : okVal d k v := by
  obtain ⟨h1, h2, h3, h4⟩ := h
  exact ⟨h1, h2, fun a b => by have := h3 a b; omega, h4⟩
theorem GoodW.mono {c d : Nat} {w : World} (g : GoodW c w) (hd : c ≤ d) : GoodW d w := ⟨g.wf, g.key, fun k v h => (g.val k v h).mono hd, g.body⟩
theorem GoodW.ext {c : Nat} {w v : World} (g : GoodW c w) (wv : WF v) (e : ∀ k, Vbwsae.get v k = Vbwsae.get w k) : GoodW c v :=
  ⟨wv, fun k x h => g.key k x (by rw [← e]; exact h), fun k x h => g.val k x (by rw [← e]; exact h), fun b j hb hj => by rw [e, e]; exact g.body b j hb hj⟩
/-- a key that is there, or one of the free ones, gets another value -/
theorem GoodW.put {c : Nat} {w : World} (g : GoodW c w) {k : Nat} {v : Int} (hk : okKey k) (hv : okVal c k v) (hh : (Vbwsae.get w k).isSome = true ∨ 2000 ≤ k) : GoodW c (Vbwsae.put k v w) := by
  have gp := get_put (okKey_big hk) v g.wf
  refine ⟨put_wf (okKey_big hk) g.wf, fun j x h => ?_, fun j x h => ?_, fun b j hb hj => ?_⟩
  · rw [gp] at h
    by_cases e : j = k
    · rw [e]; exact hk
    · rw [if_neg e] at h; exact g.key j x h
  · rw [gp] at h
    by_cases e : j = k
    · rw [if_pos e] at h
      rw [e, ← Option.some.inj h]; exact hv
    · rw [if_neg e] at h; exact g.val j x h
  · have q : ∀ m, m < 2000 → (Vbwsae.get (Vbwsae.put k v w) m).isSome = (Vbwsae.get w m).isSome := fun m hm => by
      rw [gp]
      by_cases e : m = k
      · subst e
        rw [if_pos rfl]
        rcases hh with h | h
        · rw [h]; rfl
        · omega
      · rw [if_neg e]
    rw [q _ (by omega), q _ (by omega)]
    exact g.body b j hb hj
theorem GoodW.del {c : Nat} {w : World} (g : GoodW c w) {k : Nat} (hk : 2000 ≤ k) : GoodW c (Vbwsae.del k w) := by
  have gp := get_del (k := k) g.wf
  refine ⟨del_wf g.wf, fun j x h => ?_, fun j x h => ?_, fun b j hb hj => ?_⟩
  · rw [gp] at h
    by_cases e : j = k
    · rw [if_pos e] at h; cases h
    · rw [if_neg e] at h; exact g.key j x h
  · rw [gp] at h
    by_cases e : j = k
    · rw [if_pos e] at h; cases h
    · rw [if_neg e] at h; exact g.val j x h
  · rw [gp, gp, if_neg (by omega), if_neg (by omega)]
    exact g.body b j hb hj
/-- what a body's five keys hold behind five stores -/
theorem get_put5 {w : World} (wf : WF w) {b : Nat} (hb : b < 8) (x y u v n : Int) (k : Nat) :
    Vbwsae.get (Vbwsae.put (Vbwsah.countKey b) n (Vbwsae.put (Vbwsah.keyOf b 3) v (Vbwsae.put (Vbwsah.keyOf b 2) u (Vbwsae.put (Vbwsah.keyOf b 1) y (Vbwsae.put (Vbwsah.keyOf b 0) x w))))) k =
      if k = 1000 + b then some n else if k = 4 * b + 3 then some v else if k = 4 * b + 2 then some u else if k = 4 * b + 1 then some y else if k = 4 * b then some x else Vbwsae.get w k := by
  unfold Vbwsah.countKey Vbwsah.keyOf
  have e0 : 4 * b + 0 < 2 ^ 40 := by omega
  have e1 : 4 * b + 1 < 2 ^ 40 := by omega
  have e2 : 4 * b + 2 < 2 ^ 40 := by omega
  have e3 : 4 * b + 3 < 2 ^ 40 := by omega
  have e4 : 1000 + b < 2 ^ 40 := by omega
  rw [get_put e4 n (put_wf e3 (put_wf e2 (put_wf e1 (put_wf e0 wf)))), get_put e3 v (put_wf e2 (put_wf e1 (put_wf e0 wf))), get_put e2 u (put_wf e1 (put_wf e0 wf)), get_put e1 y (put_wf e0 wf), get_put e0 x wf]
  rfl
theorem wf_put5 {w : World} (wf : WF w) {b : Nat} (hb : b < 8) (x y u v n : Int) :
    WF (Vbwsae.put (Vbwsah.countKey b) n (Vbwsae.put (Vbwsah.keyOf b 3) v (Vbwsae.put (Vbwsah.keyOf b 2) u (Vbwsae.put (Vbwsah.keyOf b 1) y (Vbwsae.put (Vbwsah.keyOf b 0) x w))))) := by
  unfold Vbwsah.countKey Vbwsah.keyOf
  exact put_wf (by omega) (put_wf (by omega) (put_wf (by omega) (put_wf (by omega) (put_wf (by omega) wf))))
theorem GoodW.put5 {c : Nat} {w : World} (g : GoodW c w) {b : Nat} (hb : b < 8) {x y u v n : Int} (hx : 0 ≤ x ∧ x ≤ 1000) (hy : 0 ≤ y ∧ y ≤ 1000) (hu : -20 ≤ u ∧ u ≤ 20) (hv : -20 ≤ v ∧ v ≤ 20) (hn : 0 ≤ n ∧ n ≤ 4 * (c : Int)) :
    GoodW c (Vbwsae.put (Vbwsah.countKey b) n (Vbwsae.put (Vbwsah.keyOf b 3) v (Vbwsae.put (Vbwsah.keyOf b 2) u (Vbwsae.put (Vbwsah.keyOf b 1) y (Vbwsae.put (Vbwsah.keyOf b 0) x w))))) := by
  have gp := get_put5 g.wf hb x y u v n
  refine ⟨wf_put5 g.wf hb x y u v n, fun k z h => ?_, fun k z h => ?_, fun b' j hb' hj => ?_⟩
  · rw [gp] at h
    unfold okKey
    repeat' (split at h)
    all_goals first | omega | exact g.key k z h
  · rw [gp] at h
    repeat' (split at h)
    all_goals try (cases h; subst k; refine ⟨fun a1 a2 => ?_, fun a1 a2 => ?_, fun a1 a2 => ?_, fun a1 => ?_⟩ <;> omega)
    · exact g.val k z h
  · rw [gp, gp]
    by_cases e : b' = b
    · subst e
      have h4 : j = 0 ∨ j = 1 ∨ j = 2 ∨ j = 3 := by omega
      rcases h4 with rfl | rfl | rfl | rfl
      · rw [if_neg (by omega), if_neg (by omega), if_neg (by omega), if_neg (by omega), if_pos (by omega), if_pos rfl]; rfl
      · rw [if_neg (by omega), if_neg (by omega), if_neg (by omega), if_pos (by omega), if_pos rfl]; rfl
      · rw [if_neg (by omega), if_neg (by omega), if_pos (by omega), if_pos rfl]; rfl
      · rw [if_neg (by omega), if_pos (by omega), if_pos rfl]; rfl
    · rw [if_neg (by omega), if_neg (by omega), if_neg (by omega), if_neg (by omega), if_neg (by omega), if_neg (by omega), if_neg (by omega), if_neg (by omega), if_neg (by omega), if_neg (by omega)]
      exact g.body b' j hb' hj
theorem step1_ok {x v a : Int} (hx : 0 ≤ x ∧ x ≤ 1000) : (0 ≤ (Vbwsah.step1 x v a).1 ∧ (Vbwsah.step1 x v a).1 ≤ 1000) ∧ (-20 ≤ (Vbwsah.step1 x v a).2 ∧ (Vbwsah.step1 x v a).2 ≤ 20) := by
  unfold Vbwsah.step1 Vbwsah.clamp Vbwsah.FAST Vbwsah.ROOM
  dsimp only
  repeat' split
  all_goals dsimp only
  all_goals omega
theorem GoodW.has {c : Nat} {w : World} (g : GoodW c w) {b : Nat} (hb : b < 8) (h : Vbwsah.isBody w b = true) :
    ∃ x y u v n : Int, Vbwsae.get w (4 * b) = some x ∧ Vbwsae.get w (4 * b + 1) = some y ∧ Vbwsae.get w (4 * b + 2) = some u ∧ Vbwsae.get w (4 * b + 3) = some v ∧ Vbwsae.get w (1000 + b) = some n ∧
      (0 ≤ x ∧ x ≤ 1000) ∧ (0 ≤ y ∧ y ≤ 1000) ∧ (-20 ≤ u ∧ u ≤ 20) ∧ (-20 ≤ v ∧ v ≤ 20) ∧ (0 ≤ n ∧ n ≤ 4 * (c : Int)) := by
  have hc : (Vbwsae.get w (1000 + b)).isSome = true := h
  have h0 := g.body b 0 hb (by omega)
  have h1 := g.body b 1 hb (by omega)
  have h2 := g.body b 2 hb (by omega)
  have h3 := g.body b 3 hb (by omega)
  rw [hc] at h0 h1 h2 h3
  obtain ⟨n, en⟩ := Option.isSome_iff_exists.mp hc
  obtain ⟨x, ex⟩ := Option.isSome_iff_exists.mp h0
  obtain ⟨y, ey⟩ := Option.isSome_iff_exists.mp h1
  obtain ⟨u, eu⟩ := Option.isSome_iff_exists.mp h2
  obtain ⟨v, ev⟩ := Option.isSome_iff_exists.mp h3
  have vx := g.val _ _ ex
  have vy := g.val _ _ ey
  have vu := g.val _ _ eu
  have vv := g.val _ _ ev
  have vn := g.val _ _ en
  exact ⟨x, y, u, v, n, ex, ey, eu, ev, en, vx.1 (by omega) (by omega), vy.1 (by omega) (by omega), vu.2.1 (by omega) (by omega), vv.2.1 (by omega) (by omega), vn.2.2.1 (by omega) (by omega)⟩
/-- a body follows an input -/
theorem moved_get {w : World} (wf : WF w) {b : Nat} (hb : b < 8) (i : Input) {x y u v n : Int} (ex : Vbwsae.get w (4 * b) = some x) (ey : Vbwsae.get w (4 * b + 1) = some y) (eu : Vbwsae.get w (4 * b + 2) = some u) (ev : Vbwsae.get w (4 * b + 3) = some v) (en : Vbwsae.get w (1000 + b) = some n) (k : Nat) :
    Vbwsae.get (Vbwsah.moved w b i) k = if k = 1000 + b then some (n + 1) else if k = 4 * b + 3 then some (Vbwsah.step1 y v i.ay).2 else if k = 4 * b + 2 then some (Vbwsah.step1 x u i.ax).2 else if k = 4 * b + 1 then some (Vbwsah.step1 y v i.ay).1 else if k = 4 * b then some (Vbwsah.step1 x u i.ax).1 else Vbwsae.get w k := by
  have a0 : Vbwsah.at_ w (Vbwsah.keyOf b 0) = x := by unfold Vbwsah.at_ Vbwsah.keyOf; rw [Nat.add_zero, ex]; rfl
  have a1 : Vbwsah.at_ w (Vbwsah.keyOf b 1) = y := by unfold Vbwsah.at_ Vbwsah.keyOf; rw [ey]; rfl
  have a2 : Vbwsah.at_ w (Vbwsah.keyOf b 2) = u := by unfold Vbwsah.at_ Vbwsah.keyOf; rw [eu]; rfl
  have a3 : Vbwsah.at_ w (Vbwsah.keyOf b 3) = v := by unfold Vbwsah.at_ Vbwsah.keyOf; rw [ev]; rfl
  have a4 : Vbwsah.at_ w (Vbwsah.countKey b) = n := by unfold Vbwsah.at_ Vbwsah.countKey; rw [en]; rfl
  unfold Vbwsah.moved
  rw [a0, a1, a2, a3, a4]
  exact get_put5 wf hb _ _ _ _ _ k
theorem moved_good {c : Nat} {w : World} (g : GoodW c w) {b : Nat} (hb : b < 8) (h : Vbwsah.isBody w b = true) {d : Nat} (hd : c ≤ d) (i : Input) (hn : Vbwsah.at_ w (1000 + b) + 1 ≤ 4 * (d : Int)) : GoodW d (Vbwsah.moved w b i) := by
  obtain ⟨x, y, u, v, n, ex, ey, eu, ev, en, hx, hy, hu, hv, hn'⟩ := g.has hb h
  have a0 : Vbwsah.at_ w (Vbwsah.keyOf b 0) = x := by unfold Vbwsah.at_ Vbwsah.keyOf; rw [Nat.add_zero, ex]; rfl
  have a1 : Vbwsah.at_ w (Vbwsah.keyOf b 1) = y := by unfold Vbwsah.at_ Vbwsah.keyOf; rw [ey]; rfl
  have a2 : Vbwsah.at_ w (Vbwsah.keyOf b 2) = u := by unfold Vbwsah.at_ Vbwsah.keyOf; rw [eu]; rfl
  have a3 : Vbwsah.at_ w (Vbwsah.keyOf b 3) = v := by unfold Vbwsah.at_ Vbwsah.keyOf; rw [ev]; rfl
  have a4 : Vbwsah.at_ w (Vbwsah.countKey b) = n := by unfold Vbwsah.at_ Vbwsah.countKey; rw [en]; rfl
  have a5 : Vbwsah.at_ w (1000 + b) = n := a4
  rw [a5] at hn
  unfold Vbwsah.moved
  rw [a0, a1, a2, a3, a4]
  exact (g.mono hd).put5 hb (step1_ok hx).1 (step1_ok hy).1 (step1_ok hx).2 (step1_ok hy).2 (by omega)
theorem moved_isBody {w : World} {c : Nat} (g : GoodW c w) {b : Nat} (hb : b < 8) (h : Vbwsah.isBody w b = true) (i : Input) (b' : Nat) (hb' : b' < 8) : Vbwsah.isBody (Vbwsah.moved w b i) b' = Vbwsah.isBody w b' := by
  obtain ⟨x, y, u, v, n, ex, ey, eu, ev, en, hx, hy, hu, hv, hn'⟩ := g.has hb h
  unfold Vbwsah.isBody Vbwsah.countKey
  rw [moved_get g.wf hb i ex ey eu ev en]
  by_cases e : b' = b
  · subst e; rw [if_pos rfl, en]; rfl
  · rw [if_neg (by omega), if_neg (by omega), if_neg (by omega), if_neg (by omega), if_neg (by omega)]
theorem moved_count {w : World} {c : Nat} (g : GoodW c w) {b : Nat} (hb : b < 8) (h : Vbwsah.isBody w b = true) (i : Input) (b' : Nat) (hb' : b' < 8) : Vbwsah.countOf (Vbwsah.moved w b i) b' = if b' = b then Vbwsah.countOf w b + 1 else Vbwsah.countOf w b' := by
  obtain ⟨x, y, u, v, n, ex, ey, eu, ev, en, hx, hy, hu, hv, hn'⟩ := g.has hb h
  unfold Vbwsah.countOf Vbwsah.at_ Vbwsah.countKey
  rw [moved_get g.wf hb i ex ey eu ev en]
  by_cases e : b' = b
  · subst e
    rw [if_pos rfl, if_pos rfl, en]
    show (n + 1).toNat = n.toNat + 1
    omega
  · rw [if_neg (by omega), if_neg (by omega), if_neg (by omega), if_neg (by omega), if_neg (by omega), if_neg e]
/-- a body follows a row of inputs -/
theorem followed_good : ∀ (is : List Input) {c : Nat} {w : World} (_ : GoodW c w) {b : Nat} (_ : b < 8) (_ : Vbwsah.isBody w b = true) {d : Nat} (_ : c ≤ d) (_ : Vbwsah.at_ w (1000 + b) + is.length ≤ 4 * (d : Int)),
    GoodW d (Vbwsah.followed w b is) ∧ (∀ b', b' < 8 → Vbwsah.isBody (Vbwsah.followed w b is) b' = Vbwsah.isBody w b') ∧ (∀ b', b' < 8 → Vbwsah.countOf (Vbwsah.followed w b is) b' = if b' = b then Vbwsah.countOf w b + is.length else Vbwsah.countOf w b')
  | [], c, w, g, b, hb, h, d, hd, hn => ⟨g.mono hd, fun b' _ => rfl, fun b' _ => by
    show Vbwsah.countOf w b' = _
    by_cases e : b' = b
    · rw [if_pos e, e]; rfl
    · rw [if_neg e]⟩
  | i :: is, c, w, g, b, hb, h, d, hd, hn => by
    rw [List.length_cons] at hn
    have hm := moved_good g hb h hd i (by omega)
    have h' := (moved_isBody g hb h i b hb).trans h
    have cn := moved_count g hb h i b hb
    rw [if_pos rfl] at cn
    have e1 : Vbwsah.at_ (Vbwsah.moved w b i) (1000 + b) = Vbwsah.at_ w (1000 + b) + 1 := by
      obtain ⟨x, y, u, v, n, ex, ey, eu, ev, en, hx, hy, hu, hv, hn'⟩ := g.has hb h
      unfold Vbwsah.at_
      rw [moved_get g.wf hb i ex ey eu ev en, if_pos rfl, en]
      rfl
    obtain ⟨r1, r2, r3⟩ := followed_good is hm hb h' (Nat.le_refl d) (by rw [e1]; omega)
    refine ⟨r1, fun b' hb' => (r2 b' hb').trans (moved_isBody g hb h i b' hb'), fun b' hb' => ?_⟩
    have := r3 b' hb'
    show Vbwsah.countOf (Vbwsah.followed (Vbwsah.moved w b i) b is) b' = _
    rw [this]
    by_cases e : b' = b
    · rw [if_pos e, if_pos e, cn, List.length_cons]; omega
    · rw [if_neg e, if_neg e, moved_count g hb h i b' hb', if_neg e]
theorem following_len (l : List Numbered) : ∀ k n, (Vbwsah.following l k n).length ≤ k
  | 0, n => Nat.le_refl _
  | k + 1, n => by
    rw [Vbwsah.following]
    split
    · exact Nat.zero_le _
    · rw [List.length_cons]
      have := following_len l k (n + 1)
      omega
end MN
set_option Elab.async false
/-! Fractions in least terms: every one is made n d; what the operations give. -/
namespace MN
open Vbwsah (Frac Clock)
theorem gcd_pos {n d : Int} (hd : 0 < d) : 0 < Int.gcd n d := by
  rcases Nat.eq_zero_or_pos (Int.gcd n d) with h | h
  · have := (Int.gcd_eq_zero_iff.mp h).2
    omega
  · exact h
theorem made_pos {n d : Int} (hd : 0 < d) : Frac.made n d = ⟨n / (Int.gcd n d : Int), (d / (Int.gcd n d : Int)).toNat⟩ := by
  unfold Frac.made
  rw [if_neg (by omega)]
  dsimp only
  rw [if_pos hd]
theorem made_neg {n d : Int} (hd : d < 0) : Frac.made n d = Frac.made (-n) (-d) := by
  rw [made_pos (n := -n) (d := -d) (by omega)]
  unfold Frac.made
  rw [if_neg (by omega)]
  dsimp only
  rw [if_neg (by omega), Int.neg_gcd, Int.gcd_neg]
/-- the parts of a made fraction -/
theorem made_parts {n d : Int} (hd : 0 < d) : ∃ g p q : Int, 0 < g ∧ 0 < q ∧ n = g * p ∧ d = g * q ∧ (Frac.made n d).num = p ∧ ((Frac.made n d).den : Int) = q ∧ Int.gcd p q = 1 := by
  have hg := gcd_pos (n := n) hd
  obtain ⟨p, hp⟩ := Int.gcd_dvd_left (a := n) (b := d)
  obtain ⟨q, hq⟩ := Int.gcd_dvd_right (a := n) (b := d)
  have hgi : (0 : Int) < (Int.gcd n d : Int) := by omega
  have hq0 : 0 < q := by
    rcases Decidable.em (0 < q) with h | h
    · exact h
    · replace h : q ≤ 0 := by omega
      have := Int.mul_nonpos_of_nonneg_of_nonpos (Int.le_of_lt hgi) h
      omega
  have e1 : n / (Int.gcd n d : Int) = p := by
    conv => lhs; lhs; rw [hp]
    exact Int.mul_ediv_cancel_left p (by omega)
  have e2 : d / (Int.gcd n d : Int) = q := by
    conv => lhs; lhs; rw [hq]
    exact Int.mul_ediv_cancel_left q (by omega)
  refine ⟨(Int.gcd n d : Int), p, q, hgi, hq0, hp, hq, ?_, ?_, ?_⟩
  · rw [made_pos hd]; exact e1
  · rw [made_pos hd]
    show ((d / (Int.gcd n d : Int)).toNat : Int) = q
    rw [e2]; omega
  · have h := Int.gcd_mul_left (Int.gcd n d : Int) p q
    rw [← hp, ← hq] at h
    have e3 : ((Int.gcd n d : Int)).natAbs = Int.gcd n d := rfl
    rw [e3] at h
    exact Nat.eq_of_mul_eq_mul_left hg (by omega)
theorem low_unique {p q p' q' : Int} (hq : 0 < q) (hq' : 0 < q') (h1 : Int.gcd p q = 1) (h2 : Int.gcd p' q' = 1) (e : p * q' = p' * q) : p = p' ∧ q = q' := by
  have ea : p.natAbs * q'.natAbs = p'.natAbs * q.natAbs := by rw [← Int.natAbs_mul, ← Int.natAbs_mul, e]
  have c1 : Nat.Coprime q.natAbs p.natAbs := (Nat.coprime_comm).mp h1
  have c2 : Nat.Coprime q'.natAbs p'.natAbs := (Nat.coprime_comm).mp h2
  have d1 : q.natAbs ∣ q'.natAbs := by
    refine c1.dvd_of_dvd_mul_left (m := p.natAbs) ?_
    rw [ea]; exact Nat.dvd_mul_left _ _
  have d2 : q'.natAbs ∣ q.natAbs := by
    refine c2.dvd_of_dvd_mul_left (m := p'.natAbs) ?_
    rw [← ea]; exact Nat.dvd_mul_left _ _
  have eq := Nat.dvd_antisymm d1 d2
  have eqq : q = q' := by omega
  subst eqq
  exact ⟨Int.eq_of_mul_eq_mul_right (by omega) e, rfl⟩
/-- **one value, one fraction** -/
theorem made_eq {n d n' d' : Int} (hd : 0 < d) (hd' : 0 < d') (e : n * d' = n' * d) : Frac.made n d = Frac.made n' d' := by
  obtain ⟨g, p, q, hg, hq, rfl, rfl, e1, e2, c⟩ := made_parts (n := n) hd
  obtain ⟨g', p', q', hg', hq', rfl, rfl, e1', e2', c'⟩ := made_parts (n := n') hd'
  have e3 : (g * g') * (p * q') = (g * g') * (p' * q) := by
    calc (g * g') * (p * q') = g * p * (g' * q') := by ac_rfl
      _ = g' * p' * (g * q) := e
      _ = (g * g') * (p' * q) := by ac_rfl
  have e4 : p * q' = p' * q := Int.eq_of_mul_eq_mul_left (Int.ne_of_gt (Int.mul_pos hg hg')) e3
  obtain ⟨a, b⟩ := low_unique hq hq' c c' e4
  have h1 : (Frac.made (g * p) (g * q)).num = (Frac.made (g' * p') (g' * q')).num := by rw [e1, e1', a]
  have h2 : (Frac.made (g * p) (g * q)).den = (Frac.made (g' * p') (g' * q')).den := by
    have : ((Frac.made (g * p) (g * q)).den : Int) = ((Frac.made (g' * p') (g' * q')).den : Int) := by rw [e2, e2', b]
    exact Int.ofNat.inj this
  generalize Frac.made (g * p) (g * q) = x at h1 h2
  generalize Frac.made (g' * p') (g' * q') = y at h1 h2
  cases x; cases y
  cases h1; cases h2
  rfl
theorem made_of {p q : Int} (hq : 0 < q) (c : Int.gcd p q = 1) : Frac.made p q = ⟨p, q.toNat⟩ := by
  rw [made_pos hq, c]
  simp
theorem of_made (n : Int) : Frac.of n = Frac.made n 1 := by
  rw [made_of (by decide) (by simp)]
  rfl
/-- cross products of a made fraction -/
theorem made_cross {n d : Int} (hd : 0 < d) : (Frac.made n d).num * d = n * ((Frac.made n d).den : Int) ∧ 0 < ((Frac.made n d).den : Int) := by
  obtain ⟨g, p, q, hg, hq, e1, e2, e3, e4, c⟩ := made_parts (n := n) hd
  rw [e3, e4]
  refine ⟨?_, hq⟩
  rw [e1, e2]
  ac_rfl
theorem made_self {n d : Int} (hd : 0 < d) : Frac.made (Frac.made n d).num ((Frac.made n d).den : Int) = Frac.made n d := by
  obtain ⟨h1, h2⟩ := made_cross (n := n) hd
  exact made_eq h2 hd h1
theorem add_made {a b c d : Int} (hb : 0 < b) (hd : 0 < d) : (Frac.made a b).add (Frac.made c d) = Frac.made (a * d + c * b) (b * d) := by
  obtain ⟨h1, h2⟩ := made_cross (n := a) hb
  obtain ⟨h3, h4⟩ := made_cross (n := c) hd
  unfold Frac.add
  generalize Frac.made a b = x at h1 h2
  generalize Frac.made c d = y at h3 h4
  have e : ((x.den * y.den : Nat) : Int) = (x.den : Int) * (y.den : Int) := by simp
  rw [e]
  refine made_eq (Int.mul_pos h2 h4) (Int.mul_pos hb hd) ?_
  generalize (x.den : Int) = xd at *
  generalize (y.den : Int) = yd at *
  calc (x.num * yd + y.num * xd) * (b * d) = (x.num * b) * (yd * d) + (y.num * d) * (xd * b) := by rw [Int.add_mul]; ac_rfl
    _ = (a * xd) * (yd * d) + (c * yd) * (xd * b) := by rw [h1, h3]
    _ = (a * d + c * b) * (xd * yd) := by rw [Int.add_mul]; ac_rfl
theorem sub_made {a b c d : Int} (hb : 0 < b) (hd : 0 < d) : (Frac.made a b).sub (Frac.made c d) = Frac.made (a * d - c * b) (b * d) := by
  obtain ⟨h1, h2⟩ := made_cross (n := a) hb
  obtain ⟨h3, h4⟩ := made_cross (n := c) hd
  unfold Frac.sub
  generalize Frac.made a b = x at h1 h2
  generalize Frac.made c d = y at h3 h4
  have e : ((x.den * y.den : Nat) : Int) = (x.den : Int) * (y.den : Int) := by simp
  rw [e]
  refine made_eq (Int.mul_pos h2 h4) (Int.mul_pos hb hd) ?_
  generalize (x.den : Int) = xd at *
  generalize (y.den : Int) = yd at *
  calc (x.num * yd - y.num * xd) * (b * d) = (x.num * b) * (yd * d) - (y.num * d) * (xd * b) := by rw [Int.sub_mul]; ac_rfl
    _ = (a * xd) * (yd * d) - (c * yd) * (xd * b) := by rw [h1, h3]
    _ = (a * d - c * b) * (xd * yd) := by rw [Int.sub_mul]; ac_rfl
theorem mul_made {a b c d : Int} (hb : 0 < b) (hd : 0 < d) : (Frac.made a b).mul (Frac.made c d) = Frac.made (a * c) (b * d) := by
  obtain ⟨h1, h2⟩ := made_cross (n := a) hb
  obtain ⟨h3, h4⟩ := made_cross (n := c) hd
  unfold Frac.mul
  generalize Frac.made a b = x at h1 h2
  generalize Frac.made c d = y at h3 h4
  have e : ((x.den * y.den : Nat) : Int) = (x.den : Int) * (y.den : Int) := by simp
  rw [e]
  refine made_eq (Int.mul_pos h2 h4) (Int.mul_pos hb hd) ?_
  generalize (x.den : Int) = xd at *
  generalize (y.den : Int) = yd at *
  calc x.num * y.num * (b * d) = (x.num * b) * (y.num * d) := by ac_rfl
    _ = (a * xd) * (c * yd) := by rw [h1, h3]
    _ = a * c * (xd * yd) := by ac_rfl
theorem div_made {a b c d : Int} (hb : 0 < b) (hc : 0 < c) (hd : 0 < d) : (Frac.made a b).div (Frac.made c d) = Frac.made (a * d) (b * c) := by
  obtain ⟨h1, h2⟩ := made_cross (n := a) hb
  obtain ⟨h3, h4⟩ := made_cross (n := c) hd
  unfold Frac.div
  generalize Frac.made a b = x at h1 h2
  generalize Frac.made c d = y at h3 h4
  have hn : 0 < y.num := by
    rcases Decidable.em (0 < y.num) with h | h
    · exact h
    · replace h : y.num ≤ 0 := by omega
      have q1 := Int.mul_nonpos_of_nonpos_of_nonneg h (Int.le_of_lt hd)
      have q2 := Int.mul_pos hc h4
      omega
  refine made_eq (Int.mul_pos hn h2) (Int.mul_pos hb hc) ?_
  generalize (x.den : Int) = xd at *
  generalize (y.den : Int) = yd at *
  calc x.num * yd * (b * c) = (x.num * b) * (c * yd) := by ac_rfl
    _ = (a * xd) * (y.num * d) := by rw [h1, h3]
    _ = a * d * (y.num * xd) := by ac_rfl
theorem cross_le {x1 x2 b y1 y2 d a c : Int} (hb : 0 < b) (hd : 0 < d) (hx : 0 < x2) (hy : 0 < y2) (h1 : x1 * b = a * x2) (h3 : y1 * d = c * y2) : x1 * y2 ≤ y1 * x2 ↔ a * d ≤ c * b := by
  have e1 : (x1 * y2) * (b * d) = (a * d) * (x2 * y2) := by
    calc (x1 * y2) * (b * d) = (x1 * b) * (y2 * d) := by ac_rfl
      _ = (a * x2) * (y2 * d) := by rw [h1]
      _ = (a * d) * (x2 * y2) := by ac_rfl
  have e2 : (y1 * x2) * (b * d) = (c * b) * (x2 * y2) := by
    calc (y1 * x2) * (b * d) = (y1 * d) * (x2 * b) := by ac_rfl
      _ = (c * y2) * (x2 * b) := by rw [h3]
      _ = (c * b) * (x2 * y2) := by ac_rfl
  have p1 := Int.mul_pos hb hd
  have p2 := Int.mul_pos hx hy
  constructor
  · intro h
    have := Int.mul_le_mul_of_nonneg_right h (Int.le_of_lt p1)
    rw [e1, e2] at this
    exact Int.le_of_mul_le_mul_right this p2
  · intro h
    have := Int.mul_le_mul_of_nonneg_right h (Int.le_of_lt p2)
    rw [← e1, ← e2] at this
    exact Int.le_of_mul_le_mul_right this p1
theorem le_made {a b c d : Int} (hb : 0 < b) (hd : 0 < d) : (Frac.made a b).le (Frac.made c d) = decide (a * d ≤ c * b) := by
  obtain ⟨h1, h2⟩ := made_cross (n := a) hb
  obtain ⟨h3, h4⟩ := made_cross (n := c) hd
  unfold Frac.le
  exact decide_eq_decide.mpr (cross_le hb hd h2 h4 h1 h3)
theorem lt_made {a b c d : Int} (hb : 0 < b) (hd : 0 < d) : (Frac.made a b).lt (Frac.made c d) = decide (a * d < c * b) := by
  obtain ⟨h1, h2⟩ := made_cross (n := a) hb
  obtain ⟨h3, h4⟩ := made_cross (n := c) hd
  unfold Frac.lt
  refine decide_eq_decide.mpr ?_
  have := cross_le hd hb h4 h2 h3 h1
  omega
/-- a clock's bounds, in thousandths -/
structure ClockOk (k : Clock) (m j : Int) : Prop where
  lo : k.lo = Frac.made m 1000
  hi : k.hi = Frac.made j 1000
  m0 : -1000000000000 ≤ m
  mj : m ≤ j
  j1 : j ≤ 1500000000000
  t0 : 0 ≤ k.time
  t1 : k.time ≤ 1000000000
theorem gain_eq (d : Nat) (t : Int) : Vbwsah.gain d t = Frac.made ((d : Int) * t) 1000 := rfl
theorem th_add {a b : Int} : (Frac.made a 1000).add (Frac.made b 1000) = Frac.made (a + b) 1000 := by
  rw [add_made (by decide) (by decide)]
  exact made_eq (by decide) (by decide) (by omega)
theorem th_sub {a b : Int} : (Frac.made a 1000).sub (Frac.made b 1000) = Frac.made (a - b) 1000 := by
  rw [sub_made (by decide) (by decide)]
  exact made_eq (by decide) (by decide) (by omega)
theorem th_of (n : Int) : Frac.of n = Frac.made (n * 1000) 1000 := by
  rw [of_made]
  exact made_eq (by decide) (by decide) (by omega)
theorem th_le {a b : Int} : (Frac.made a 1000).le (Frac.made b 1000) = decide (a ≤ b) := by
  rw [le_made (by decide) (by decide)]
  exact decide_eq_decide.mpr (by omega)
theorem th_lt {a b : Int} : (Frac.made a 1000).lt (Frac.made b 1000) = decide (a < b) := by
  rw [lt_made (by decide) (by decide)]
  exact decide_eq_decide.mpr (by omega)
theorem th_max {a b : Int} : (Frac.made a 1000).max (Frac.made b 1000) = Frac.made (if a ≤ b then b else a) 1000 := by
  unfold Frac.max
  rw [th_le]
  by_cases h : a ≤ b
  · rw [if_pos (decide_eq_true h), if_pos h]
  · rw [if_neg (by simpa using h), if_neg h]
theorem th_min {a b : Int} : (Frac.made a 1000).min (Frac.made b 1000) = Frac.made (if a ≤ b then a else b) 1000 := by
  unfold Frac.min
  rw [th_le]
  by_cases h : a ≤ b
  · rw [if_pos (decide_eq_true h), if_pos h]
  · rw [if_neg (by simpa using h), if_neg h]
theorem later_th (d : Nat) {c : Clock} {m j : Int} (h : ClockOk c m j) (t : Int) : Vbwsah.later d c t = ⟨Frac.made (m - (d : Int) * (t - c.time)) 1000, Frac.made (j + (d : Int) * (t - c.time)) 1000, t⟩ := by
  unfold Vbwsah.later
  dsimp only
  rw [h.lo, h.hi, gain_eq, th_sub, th_add]
theorem exchanged_th (d : Nat) (a s b : Int) : Vbwsah.exchanged d a s b = ⟨Frac.made ((s - b) * 1000) 1000, Frac.made ((s - a) * 1000 + (d : Int) * (b - a)) 1000, b⟩ := by
  unfold Vbwsah.exchanged
  rw [gain_eq, th_of, th_of, th_add]
theorem gain_le {d : Nat} {t : Int} (hd : d ≤ 500) (h0 : 0 ≤ t) (h1 : t ≤ 1000000000) : 0 ≤ (d : Int) * t ∧ (d : Int) * t ≤ 500000000000 := by
  have a := Int.mul_nonneg (show (0 : Int) ≤ (d : Int) by omega) h0
  have b := Int.mul_le_mul (show (d : Int) ≤ 500 by omega) h1 h0 (by omega)
  omega
theorem exchanged_ok {d : Nat} (hd : d ≤ 500) {a s b : Int} (ha : 0 ≤ a ∧ a ≤ 1000000000) (hs : 0 ≤ s ∧ s ≤ 1000000000) (hb : 0 ≤ b ∧ b ≤ 1000000000) (hab : a ≤ b) :
    ClockOk (Vbwsah.exchanged d a s b) ((s - b) * 1000) ((s - a) * 1000 + (d : Int) * (b - a)) := by
  have g := gain_le (t := b - a) hd (by omega) (by omega)
  rw [exchanged_th]
  refine ⟨rfl, rfl, by omega, by omega, by omega, hb.1, hb.2⟩
theorem known_some {d : Nat} {c : Clock} {m j : Int} (h : ClockOk c m j) {a s b : Int} :
    Vbwsah.known d (some c) a s b = (let m1 := m - (d : Int) * (b - c.time); let j1 := j + (d : Int) * (b - c.time); let m2 := (s - b) * 1000; let j2 := (s - a) * 1000 + (d : Int) * (b - a)
      let m3 := if m1 ≤ m2 then m2 else m1; let j3 := if j1 ≤ j2 then j1 else j2
      if j3 < m3 then none else some ⟨Frac.made m3 1000, Frac.made j3 1000, b⟩) := by
  unfold Vbwsah.known
  dsimp only
  rw [later_th d h, exchanged_th]
  dsimp only
  rw [th_max, th_min, th_lt]
  simp only [decide_eq_true_eq]
theorem known_ok {d : Nat} (hd : d ≤ 500) {o : Option Clock} (h : ∀ c, o = some c → ∃ m j, ClockOk c m j) {a s b : Int} (ha : 0 ≤ a ∧ a ≤ 1000000000) (hs : 0 ≤ s ∧ s ≤ 1000000000) (hb : 0 ≤ b ∧ b ≤ 1000000000) (hab : a ≤ b) {k : Clock}
    (hk : Vbwsah.known d o a s b = some k) : ∃ m j, ClockOk k m j := by
  cases o with
  | none =>
    have e : k = Vbwsah.exchanged d a s b := (Option.some.inj hk).symm
    rw [e]
    exact ⟨_, _, exchanged_ok hd ha hs hb hab⟩
  | some c =>
    obtain ⟨m, j, hc⟩ := h c rfl
    rw [known_some hc] at hk
    dsimp only at hk
    have g := gain_le (t := b - a) hd (by omega) (by omega)
    generalize e3 : (if m - (d : Int) * (b - c.time) ≤ (s - b) * 1000 then (s - b) * 1000 else m - (d : Int) * (b - c.time)) = m3 at hk
    generalize e4 : (if j + (d : Int) * (b - c.time) ≤ (s - a) * 1000 + (d : Int) * (b - a) then j + (d : Int) * (b - c.time) else (s - a) * 1000 + (d : Int) * (b - a)) = j3 at hk
    by_cases q : j3 < m3
    · rw [if_pos q] at hk; cases hk
    · rw [if_neg q] at hk
      cases hk
      refine ⟨_, _, rfl, rfl, ?_, by omega, ?_, hb.1, hb.2⟩
      · split at e3 <;> omega
      · split at e4 <;> omega
end MN
set_option Elab.async false
/-! What holds between two calls: every world that a client has is the server's of that tick; a packet that isn't old fits. -/
namespace MN
open Vbwsae (T Change)
open Vbwsah (World Input Numbered Known Client State Packet Ring Clock Frac)
/-! rows by numbers -/
theorem find_mem {β : Type} {c : Nat} {x : β} : ∀ {l : List (Nat × β)}, ((l.find? fun p => p.1 == c).map fun p => p.2) = some x → (c, x) ∈ l
  | [], h => by simp at h
  | p :: l, h => by
    rw [List.find?_cons] at h
    by_cases e : p.1 = c
    · have e' : (p.1 == c) = true := by simp [e]
      rw [e'] at h
      have := Option.some.inj h
      rw [← this, ← e]
      exact List.mem_cons_self
    · have e' : (p.1 == c) = false := by simp [e]
      rw [e'] at h
      exact List.mem_cons_of_mem _ (find_mem h)
theorem mem_find {β : Type} {c : Nat} {x : β} : ∀ {l : List (Nat × β)}, (l.map (·.1)).Nodup → (c, x) ∈ l → ((l.find? fun p => p.1 == c).map fun p => p.2) = some x
  | [], _, h => by simp at h
  | p :: l, nd, h => by
    rw [List.map_cons, List.nodup_cons] at nd
    rw [List.find?_cons]
    rcases List.mem_cons.mp h with e | e
    · rw [← e]; simp
    · have e' : (p.1 == c) = false := by
        simp only [beq_eq_false_iff_ne]
        intro z
        exact nd.1 (z ▸ List.mem_map.mpr ⟨_, e, rfl⟩)
      rw [e']
      exact mem_find nd.2 e
theorem nodup_mem {β : Type} {c : Nat} {x y : β} {l : List (Nat × β)} (nd : (l.map (·.1)).Nodup) (h1 : (c, x) ∈ l) (h2 : (c, y) ∈ l) : x = y :=
  Option.some.inj ((mem_find nd h1).symm.trans (mem_find nd h2))
def setRow {β : Type} (l : List (Nat × β)) (c : Nat) (k : β) : List (Nat × β) := l.map fun x => if x.1 = c then (c, k) else x
theorem setRow_mem {β : Type} {l : List (Nat × β)} {c c' : Nat} {k k' : β} (h : (c', k') ∈ setRow l c k) : (c' = c ∧ k' = k) ∨ (c' ≠ c ∧ (c', k') ∈ l) := by
  unfold setRow at h
  obtain ⟨p, hp, e⟩ := List.mem_map.mp h
  split at e
  · cases e; exact Or.inl ⟨rfl, rfl⟩
  · rename_i ne
    subst e
    exact Or.inr ⟨ne, hp⟩
theorem setRow_map {β γ : Type} {l : List (Nat × β)} (nd : (l.map (·.1)).Nodup) {c : Nat} {k y : β} (hy : (c, y) ∈ l) (g : Nat × β → γ) (e : g (c, k) = g (c, y)) : (setRow l c k).map g = l.map g := by
  unfold setRow
  rw [List.map_map]
  refine List.map_congr_left fun p hp => ?_
  show g (if p.1 = c then (c, k) else p) = g p
  split
  · rename_i ec
    rw [e]
    have : (c, p.2) ∈ l := by rw [← ec]; exact hp
    rw [nodup_mem nd hy this, ← ec]
  · rfl
theorem setRow_len {β : Type} (l : List (Nat × β)) (c : Nat) (k : β) : (setRow l c k).length = l.length := by unfold setRow; rw [List.length_map]
theorem setRow_fst {β : Type} (l : List (Nat × β)) (c : Nat) (k : β) : (setRow l c k).map (·.1) = l.map (·.1) := by
  unfold setRow
  rw [List.map_map]
  refine List.map_congr_left fun p hp => ?_
  show (if p.1 = c then (c, k) else p).1 = p.1
  split
  · rename_i e; exact e.symm
  · rfl
theorem setRow_new {β : Type} {l : List (Nat × β)} {c : Nat} {k y : β} (hy : (c, y) ∈ l) : (c, k) ∈ setRow l c k := by
  unfold setRow
  exact List.mem_map.mpr ⟨(c, y), hy, by simp⟩
theorem setRow_old {β : Type} {l : List (Nat × β)} {c c' : Nat} {k k' : β} (ne : c' ≠ c) (h : (c', k') ∈ l) : (c', k') ∈ setRow l c k := by
  unfold setRow
  exact List.mem_map.mpr ⟨(c', k'), h, by simp [ne]⟩
theorem nodup_len : ∀ {a b : List Nat}, a.Nodup → (∀ x ∈ a, x ∈ b) → a.length ≤ b.length
  | [], b, _, _ => Nat.zero_le _
  | x :: a, b, nd, h => by
    rw [List.nodup_cons] at nd
    have hx := h x List.mem_cons_self
    have := nodup_len (a := a) (b := b.erase x) nd.2 fun y hy => (List.mem_erase_of_ne (fun e => nd.1 (by rw [← e]; exact hy))).mpr (h y (List.mem_cons_of_mem _ hy))
    rw [List.length_erase_of_mem hx] at this
    have hp : 0 < b.length := List.length_pos_of_mem hx
    rw [List.length_cons]
    omega
theorem desc_nodup {l : List Nat} (h : l.Pairwise (· > ·)) : l.Nodup := List.Pairwise.imp (fun {a b} (h : a > b) => by omega) h
/-- a member of a falling row with fewer than m members above it is among its first m -/
theorem desc_take : ∀ {l : List Nat} {b m : Nat}, l.Pairwise (· > ·) → b ∈ l → (l.filter fun y => decide (b < y)).length < m → b ∈ l.take m
  | [], b, m, _, h, _ => by simp at h
  | x :: l, b, 0, _, _, h => by omega
  | x :: l, b, m + 1, d, h, hm => by
    rw [List.take_succ_cons]
    rw [List.pairwise_cons] at d
    rcases List.mem_cons.mp h with e | e
    · rw [e]; exact List.mem_cons_self
    · have hx := d.1 b e
      rw [List.filter_cons, if_pos (by simpa using hx), List.length_cons] at hm
      exact List.mem_cons_of_mem _ (desc_take d.2 e (by omega))
/-- .. and one of the first m has fewer than m above it -/
theorem take_desc : ∀ {l : List Nat} {b m : Nat}, l.Pairwise (· > ·) → b ∈ l.take m → (l.filter fun y => decide (b < y)).length < m
  | [], b, m, _, h => by simp at h
  | x :: l, b, 0, _, h => by simp at h
  | x :: l, b, m + 1, d, h => by
    rw [List.take_succ_cons] at h
    have d' := List.pairwise_cons.mp d
    rcases List.mem_cons.mp h with e | e
    · subst e
      have : (b :: l).filter (fun y => decide (b < y)) = [] := by
        rw [List.filter_eq_nil_iff]
        intro y hy
        rcases List.mem_cons.mp hy with q | q
        · simp [q]
        · have := d'.1 y q
          simp only [decide_eq_true_eq]; omega
      rw [this]; exact Nat.succ_pos _
    · have := take_desc d'.2 e
      rw [List.filter_cons]
      split
      · rw [List.length_cons]; omega
      · omega
def clientOf : Packet → Nat
  | .down c _ _ _ => c
  | .up c _ _ => c
structure Per (n : Nat) (s : State) (hist : Nat → World) (c : Nat) (k : Known) (x : Client) (all recv : List Nat) : Prop where
  same : x.body = k.body
  dAll : all.Pairwise (· > ·)
  tAll : ∀ t ∈ all, 0 < t ∧ t ≤ s.tick
  dRecv : recv.Pairwise (· > ·)
  sub : ∀ t ∈ recv, t ∈ all
  sent : k.sent = (all.take 16).map fun t => (t, hist t)
  ring : x.ring.map (·.1) = recv.take 16
  ringW : ∀ p ∈ x.ring, GoodW s.tick p.2 ∧ ∀ j, Vbwsae.get p.2 j = Vbwsae.get (hist p.1) j
  ack : k.ack = 0 ∨ k.ack ∈ recv
  down : ∀ t b d, Packet.down c t b d ∈ s.packets → t ∈ all ∧ d = Vbwsae.diff Vbwsah.same (hist b) (hist t) ∧ (b = 0 ∨ (b ∈ recv ∧ b ≤ t ∧ (all.filter fun y => decide (b < y) && decide (y < t)).length ≤ 15))
  up : ∀ a is, Packet.up c a is ∈ s.packets → (a = 0 ∨ a ∈ recv) ∧ is.length ≤ 64 ∧ (is.map (·.1)).Pairwise (· < ·) ∧ ∀ i ∈ is, 1 ≤ i.1 ∧ i.1 < x.next
  kin : (k.inputs.map (·.1)).Pairwise (· < ·)
  kinB : ∀ i ∈ k.inputs, Vbwsah.countOf s.world k.body < i.1 ∧ i.1 < x.next
  xin : (x.inputs.map (·.1)).Pairwise (· < ·)
  xinB : ∀ i ∈ x.inputs, 1 ≤ i.1 ∧ i.1 < x.next ∧ Vbwsah.countOf (Vbwsah.baseOf x) x.body < i.1
  xlen : x.inputs.length ≤ 64
  next : 1 ≤ x.next ∧ x.next ≤ n + 1
  cnt : Vbwsah.countOf s.world k.body < x.next
  hcnt : ∀ t, t ≤ s.tick → Vbwsah.countOf (hist t) k.body < x.next
  clock : ∀ ck, x.clock = some ck → ∃ m j, ClockOk ck m j
structure HInv (n : Nat) (s : State) (hist : Nat → World) : Prop where
  h0 : hist 0 = .none
  good : ∀ t, t ≤ s.tick → GoodW t (hist t)
  world : GoodW s.tick s.world
  tick : s.tick ≤ n
  past : s.past = (List.range (min s.tick 64)).map fun i => (s.tick - i, hist (s.tick - i))
  same : s.clients.map (fun c => (c.1, c.2.body)) = s.known.map (fun k => (k.1, k.2.body))
  nums : (s.known.map (·.1)).Nodup
  num9 : ∀ k ∈ s.known, k.1 ≤ 9
  bods : (s.known.map fun k => k.2.body).Nodup
  four : s.known.length ≤ 4
  body : ∀ k ∈ s.known, k.2.body < 8 ∧ Vbwsah.isBody s.world k.2.body = true
  free : ∀ b, b < 8 → (∀ k ∈ s.known, k.2.body ≠ b) → Vbwsah.countOf s.world b = 0 ∧ ∀ t, t ≤ s.tick → Vbwsah.countOf (hist t) b = 0
  pk : s.packets.length ≤ 200
  pkc : ∀ p ∈ s.packets, ∃ k, (clientOf p, k) ∈ s.known
  drift : s.drift ≤ 500
  per : ∀ c k x, (c, k) ∈ s.known → (c, x) ∈ s.clients → ∃ all recv, Per n s hist c k x all recv
theorem Per.mono {n : Nat} {s : State} {hist : Nat → World} {c : Nat} {k : Known} {x : Client} {all recv : List Nat} (p : Per n s hist c k x all recv) {m : Nat} {s' : State} (hm : n ≤ m) (et : s'.tick = s.tick) (ep : s'.packets = s.packets)
    (ew : Vbwsah.countOf s'.world k.body = Vbwsah.countOf s.world k.body) : Per m s' hist c k x all recv :=
  { p with
    tAll := by rw [et]; exact p.tAll
    ringW := by rw [et]; exact p.ringW
    down := by rw [ep]; exact p.down
    up := by rw [ep]; exact p.up
    kinB := by rw [ew]; exact p.kinB
    next := ⟨p.next.1, by have := p.next.2; omega⟩
    cnt := by rw [ew]; exact p.cnt
    hcnt := by rw [et]; exact p.hcnt }
variable {n : Nat} {s : State} {hist : Nat → World}
theorem HInv.fst (h : HInv n s hist) : s.clients.map (·.1) = s.known.map (·.1) := by
  have := congrArg (List.map Prod.fst) h.same
  rw [List.map_map, List.map_map] at this
  exact this
theorem HInv.numsC (h : HInv n s hist) : (s.clients.map (·.1)).Nodup := by rw [h.fst]; exact h.nums
theorem HInv.lenC (h : HInv n s hist) : s.clients.length = s.known.length := by
  have := congrArg List.length h.fst
  simpa using this
theorem HInv.more (h : HInv n s hist) : HInv (n + 1) s hist :=
  { h with
    tick := Nat.le_succ_of_le h.tick
    per := fun c k x h1 h2 => by
      obtain ⟨all, recv, p⟩ := h.per c k x h1 h2
      exact ⟨all, recv, p.mono (Nat.le_succ n) rfl rfl rfl⟩ }
/-- who is there on one side is there on the other -/
theorem HInv.client_of (h : HInv n s hist) {c : Nat} {k : Known} (hk : (c, k) ∈ s.known) : ∃ x, (c, x) ∈ s.clients ∧ x.body = k.body := by
  have : (c, k.body) ∈ s.known.map (fun k => (k.1, k.2.body)) := List.mem_map.mpr ⟨(c, k), hk, rfl⟩
  rw [← h.same] at this
  obtain ⟨⟨c', x⟩, hx, e⟩ := List.mem_map.mp this
  have e1 : c' = c := congrArg Prod.fst e
  have e2 : x.body = k.body := congrArg Prod.snd e
  subst e1
  exact ⟨x, hx, e2⟩
theorem HInv.known_of (h : HInv n s hist) {c : Nat} {x : Client} (hx : (c, x) ∈ s.clients) : ∃ k, (c, k) ∈ s.known ∧ x.body = k.body := by
  have : (c, x.body) ∈ s.clients.map (fun k => (k.1, k.2.body)) := List.mem_map.mpr ⟨(c, x), hx, rfl⟩
  rw [h.same] at this
  obtain ⟨⟨c', k⟩, hk, e⟩ := List.mem_map.mp this
  have e1 : c' = c := congrArg Prod.fst e
  have e2 : k.body = x.body := congrArg Prod.snd e
  subst e1
  exact ⟨k, hk, e2.symm⟩
/-- only the world has changed, and no body's count -/
theorem HInv.withWorld (h : HInv n s hist) {w : World} (g : GoodW s.tick w) (hb : ∀ b, b < 8 → Vbwsah.isBody s.world b = true → Vbwsah.isBody w b = true) (hc : ∀ b, b < 8 → Vbwsah.countOf w b = Vbwsah.countOf s.world b) : HInv (n + 1) { s with world := w } hist :=
  { h.more with
    world := g
    body := fun k hk => ⟨(h.body k hk).1, hb _ (h.body k hk).1 (h.body k hk).2⟩
    free := fun b h8 hf => by
      have := h.free b h8 hf
      exact ⟨by show Vbwsah.countOf w b = 0; rw [hc b h8]; exact this.1, this.2⟩
    per := fun c k x h1 h2 => by
      obtain ⟨all, recv, p⟩ := h.per c k x h1 h2
      exact ⟨all, recv, p.mono (Nat.le_succ n) rfl rfl (hc _ (h.body _ h1).1)⟩ }
theorem start_inv : HInv 0 Vbwsah.start fun _ => .none where
  h0 := rfl
  good := fun t _ => GoodW.none t
  world := GoodW.none _
  tick := Nat.le_refl _
  past := rfl
  same := rfl
  nums := List.nodup_nil
  num9 := fun k hk => by cases hk
  bods := List.nodup_nil
  four := Nat.zero_le _
  body := fun k hk => by cases hk
  free := fun b _ _ => ⟨rfl, fun t _ => rfl⟩
  pk := Nat.zero_le _
  pkc := fun p hp => by cases hp
  drift := Nat.zero_le _
  per := fun c k x h => by cases h
theorem countOf_eq {w v : World} {b : Nat} (e : Vbwsae.get w (1000 + b) = Vbwsae.get v (1000 + b)) : Vbwsah.countOf w b = Vbwsah.countOf v b := by
  unfold Vbwsah.countOf Vbwsah.at_ Vbwsah.countKey
  rw [e]
theorem isBody_eq {w v : World} {b : Nat} (e : Vbwsae.get w (1000 + b) = Vbwsae.get v (1000 + b)) : Vbwsah.isBody w b = Vbwsah.isBody v b := by
  unfold Vbwsah.isBody Vbwsah.countKey
  rw [e]
theorem countOf_none {w : World} {b : Nat} (e : Vbwsah.isBody w b = false) : Vbwsah.countOf w b = 0 := by
  unfold Vbwsah.isBody at e
  unfold Vbwsah.countOf Vbwsah.at_
  cases q : Vbwsae.get w (Vbwsah.countKey b) with
  | none => rfl
  | some v => rw [q] at e; cases e
theorem inside_iff {z lo hi : Int} : Vbwsah.inside z lo hi = true ↔ lo ≤ z ∧ z ≤ hi := by
  unfold Vbwsah.inside
  simp
theorem inside_not {z lo hi : Int} : Vbwsah.inside z lo hi = false ↔ ¬ (lo ≤ z ∧ z ≤ hi) := by
  rw [← inside_iff]
  cases Vbwsah.inside z lo hi <;> simp
/-! ### the calls -/
theorem inv_body (h : HInv n s hist) (b x y u v : Int) : HInv (n + 1) (Vbwsah.step s (.body b x y u v)).1 hist := by
  rw [Vbwsah.step]
  split
  · exact h.more
  rename_i c1
  split
  · exact h.more
  rename_i c2
  simp only [not_or, Bool.not_eq_false, List.all_cons, List.all_nil, Bool.and_true, Bool.and_eq_true, Vbwsah.isSpeed, inside_iff, Vbwsah.ROOM, Vbwsah.FAST] at c1
  obtain ⟨b1, ⟨hx, hy⟩, hu, hv⟩ := c1
  have h8 : b.toNat < 8 := by omega
  have gp := get_put5 h.world.wf h8 x y u v 0
  refine h.withWorld (h.world.put5 h8 hx hy hu hv ⟨Int.le_refl _, by omega⟩) (fun b' hb' q => ?_) (fun b' hb' => ?_)
  · by_cases e : b' = b.toNat
    · subst e; exact absurd q c2
    · rw [← q]
      refine isBody_eq ?_
      rw [gp, if_neg (by omega), if_neg (by omega), if_neg (by omega), if_neg (by omega), if_neg (by omega)]
  · by_cases e : b' = b.toNat
    · subst e
      rw [countOf_none (w := s.world) (by simpa using c2)]
      unfold Vbwsah.countOf Vbwsah.at_
      rw [show Vbwsah.countKey b.toNat = 1000 + b.toNat from rfl] at gp ⊢
      rw [gp, if_pos rfl]
      rfl
    · refine countOf_eq ?_
      rw [gp, if_neg (by omega), if_neg (by omega), if_neg (by omega), if_neg (by omega), if_neg (by omega)]
theorem put_world (h : HInv n s hist) {k : Nat} {z : Int} (hk : k < 32 ∨ (2000 ≤ k ∧ k < 2064)) (hz : okVal s.tick k z) (hh : (Vbwsae.get s.world k).isSome = true ∨ 2000 ≤ k) : HInv (n + 1) { s with world := Vbwsae.put k z s.world } hist := by
  have ok : okKey k := by unfold okKey; omega
  have gp := get_put (okKey_big ok) z h.world.wf
  have e : ∀ b, b < 8 → Vbwsae.get (Vbwsae.put k z s.world) (1000 + b) = Vbwsae.get s.world (1000 + b) := fun b hb => by rw [gp, if_neg (by omega)]
  exact h.withWorld (h.world.put ok hz hh) (fun b hb q => (isBody_eq (e b hb)).trans q) (fun b hb => countOf_eq (e b hb))
theorem inv_set (h : HInv n s hist) (k z : Int) : HInv (n + 1) (Vbwsah.step s (.set_ k z)).1 hist := by
  rw [Vbwsah.step]
  split
  · rename_i c1
    have k1 := inside_iff.mp c1
    split
    · exact h.more
    rename_i c2
    by_cases c3 : (if k.toNat % 4 < 2 then Vbwsah.inside z 0 Vbwsah.ROOM else Vbwsah.isSpeed z) = false
    · rw [if_pos c3]; exact h.more
    rw [if_neg c3]
    simp only [Bool.not_eq_false] at c2 c3
    have hb := h.world.body (k.toNat / 4) (k.toNat % 4) (by omega) (by omega)
    have e4 : 4 * (k.toNat / 4) + k.toNat % 4 = k.toNat := by omega
    rw [e4] at hb
    refine put_world h (Or.inl (by omega)) ⟨fun a1 a2 => ?_, fun a1 a2 => ?_, fun a1 a2 => by omega, fun a1 => by omega⟩ (Or.inl (hb.trans c2))
    · rw [if_pos a2] at c3
      exact inside_iff.mp c3
    · rw [if_neg (by omega)] at c3
      exact inside_iff.mp c3
  · split
    · exact h.more
    rename_i c3
    simp only [not_or, Bool.not_eq_false, inside_iff] at c3
    exact put_world h (Or.inr (by omega)) ⟨fun a1 a2 => by omega, fun a1 a2 => by omega, fun a1 a2 => by omega, fun a1 => c3.2⟩ (Or.inr (by omega))
theorem inv_unset (h : HInv n s hist) (k : Int) : HInv (n + 1) (Vbwsah.step s (.unset k)).1 hist := by
  rw [Vbwsah.step]
  split
  · exact h.more
  split
  · exact h.more
  rename_i c1 c2
  simp only [Bool.not_eq_false, inside_iff] at c1
  have gp := get_del (k := k.toNat) h.world.wf
  have e : ∀ b, b < 8 → Vbwsae.get (Vbwsae.del k.toNat s.world) (1000 + b) = Vbwsae.get s.world (1000 + b) := fun b hb => by rw [gp, if_neg (by omega)]
  exact h.withWorld (h.world.del (by omega)) (fun b hb q => (isBody_eq (e b hb)).trans q) (fun b hb => countOf_eq (e b hb))
theorem inv_client (h : HInv n s hist) (c b : Int) : HInv (n + 1) (Vbwsah.step s (.client c b)).1 hist := by
  rw [Vbwsah.step]
  split
  · exact h.more
  split
  · exact h.more
  split
  · exact h.more
  split
  · exact h.more
  rename_i c1 c2 c3 c4
  simp only [not_or, Bool.not_eq_false, inside_iff] at c1 c3
  simp only [not_or, Bool.not_eq_true] at c2
  obtain ⟨c2a, c2b⟩ := c2
  have nC : ∀ x, (c.toNat, x) ∉ s.clients := fun x hx => by
    have : Vbwsah.clientAt s c.toNat = some x := mem_find h.numsC hx
    rw [this] at c2a; cases c2a
  have nK : ∀ k, (c.toNat, k) ∉ s.known := fun k hk => by
    obtain ⟨x, hx, _⟩ := h.client_of hk
    exact nC x hx
  have nB : ∀ k ∈ s.known, k.2.body ≠ b.toNat := fun k hk e => by
    have := (List.any_eq_false.mp c2b) k hk
    simp [e] at this
  have hf := h.free b.toNat (by omega) nB
  refine { h.more with
    same := by
      show (s.clients ++ [(c.toNat, ({ body := b.toNat } : Client))]).map (fun c => (c.1, c.2.body)) = (s.known ++ [(c.toNat, ({ body := b.toNat } : Known))]).map (fun k => (k.1, k.2.body))
      rw [List.map_append, List.map_append, h.same]; rfl
    nums := by
      show ((s.known ++ [(c.toNat, ({ body := b.toNat } : Known))]).map (·.1)).Nodup
      rw [List.map_append, List.nodup_append]
      refine ⟨h.nums, by simp, fun a ha a' ha' => ?_⟩
      simp at ha'
      rw [ha']
      obtain ⟨⟨c', k⟩, hk, rfl⟩ := List.mem_map.mp ha
      exact fun z => nK k (by rw [← z]; exact hk)
    num9 := fun k hk => by
      rcases List.mem_append.mp hk with q | q
      · exact h.num9 k q
      · simp at q; rw [q]; show c.toNat ≤ 9; omega
    bods := by
      show ((s.known ++ [(c.toNat, ({ body := b.toNat } : Known))]).map fun k => k.2.body).Nodup
      rw [List.map_append, List.nodup_append]
      refine ⟨h.bods, by simp, fun a ha a' ha' => ?_⟩
      simp at ha'
      rw [ha']
      obtain ⟨k, hk, rfl⟩ := List.mem_map.mp ha
      exact nB k hk
    four := by
      show (s.known ++ [(c.toNat, ({ body := b.toNat } : Known))]).length ≤ 4
      have := h.lenC
      simp only [Vbwsah.CLIENTS] at c4
      rw [List.length_append]; simp; omega
    body := fun k hk => by
      rcases List.mem_append.mp hk with q | q
      · exact h.body k q
      · simp at q; rw [q]; exact ⟨by show b.toNat < 8; omega, c3⟩
    free := fun b' h8 hf' => h.free b' h8 fun k hk => hf' k (List.mem_append_left _ hk)
    pkc := fun p hp => by
      obtain ⟨k, hk⟩ := h.pkc p hp
      exact ⟨k, List.mem_append_left _ hk⟩
    per := fun c' k x h1 h2 => ?_ }
  rcases List.mem_append.mp h1 with q | q
  · rcases List.mem_append.mp h2 with q' | q'
    · obtain ⟨all, recv, p⟩ := h.per c' k x q q'
      exact ⟨all, recv, p.mono (Nat.le_succ n) rfl rfl rfl⟩
    · simp at q'
      rw [q'.1] at q
      exact absurd q (nK k)
  · simp at q
    obtain ⟨rfl, rfl⟩ := q
    rcases List.mem_append.mp h2 with q' | q'
    · exact absurd q' (nC x)
    · simp at q'
      subst q'
      refine ⟨[], [], ⟨rfl, List.Pairwise.nil, fun t ht => (by cases ht), List.Pairwise.nil, fun t ht => (by cases ht), rfl, rfl, fun p hp => (by cases hp), Or.inl rfl, fun t b' d hp => ?_, fun a is hp => ?_, List.Pairwise.nil, fun i hi => (by cases hi), List.Pairwise.nil, fun i hi => (by cases hi), Nat.zero_le _, ⟨Nat.le_refl _, by show 1 ≤ n + 1 + 1; omega⟩, ?_, fun t ht => ?_, fun ck hck => (by cases hck)⟩⟩
      · obtain ⟨k, hk⟩ := h.pkc _ hp
        exact absurd hk (nK k)
      · obtain ⟨k, hk⟩ := h.pkc _ hp
        exact absurd hk (nK k)
      · show Vbwsah.countOf s.world b.toNat < 1
        rw [hf.1]; exact Nat.lt_succ_self 0
      · show Vbwsah.countOf (hist t) b.toNat < 1
        rw [hf.2 t ht]; exact Nat.lt_succ_self 0
end MN
set_option Elab.async false
namespace MN
open Vbwsae (T Change)
open Vbwsah (World Input Numbered Known Client State Packet Ring Clock Frac)
variable {n : Nat} {s : State} {hist : Nat → World}
/-! ### a tick -/
def tickOne (w : World) (k : Known) : World × Known :=
  (Vbwsah.followed w k.body (Vbwsah.following k.inputs 4 (Vbwsah.countOf w k.body)),
   { k with inputs := k.inputs.filter fun i => decide (Vbwsah.countOf (Vbwsah.followed w k.body (Vbwsah.following k.inputs 4 (Vbwsah.countOf w k.body))) k.body < i.1) })
def tickAll : World → List (Nat × Known) → World × List (Nat × Known)
  | w, [] => (w, [])
  | w, k :: l => ((tickAll (tickOne w k.2).1 l).1, (k.1, (tickOne w k.2).2) :: (tickAll (tickOne w k.2).1 l).2)
theorem tick_fold : ∀ (l : List (Nat × Known)) (w : World) (acc : List (Nat × Known)),
    l.foldl (fun (x : World × List (Nat × Known)) k =>
    let is := Vbwsah.following k.2.inputs Vbwsah.ATONCE (Vbwsah.countOf x.1 k.2.body)
    let w := Vbwsah.followed x.1 k.2.body is
    (w, x.2 ++ [(k.1, { k.2 with inputs := k.2.inputs.filter fun i => decide (Vbwsah.countOf w k.2.body < i.1) })])) (w, acc) = ((tickAll w l).1, acc ++ (tickAll w l).2)
  | [], w, acc => by simp [tickAll]
  | k :: l, w, acc => by
    rw [List.foldl_cons]
    refine (tick_fold l _ _).trans ?_
    simp only [tickAll, tickOne, Vbwsah.ATONCE, List.append_assoc, List.singleton_append]
    rfl
theorem ticked_eq (s : State) : Vbwsah.ticked s = { s with world := (tickAll s.world s.known).1, known := (tickAll s.world s.known).2, tick := s.tick + 1, past := Vbwsah.keepPast s.past (s.tick + 1) (tickAll s.world s.known).1 } := by
  unfold Vbwsah.ticked
  rw [tick_fold]
  simp
theorem inputAt_mem {l : List Numbered} {m : Nat} {i : Input} (h : Vbwsah.inputAt l m = some i) : (m, i) ∈ l := find_mem h
theorem following_last (l : List Numbered) : ∀ (m c : Nat), (Vbwsah.following l m c).length = 0 ∨ ∃ i, (c + (Vbwsah.following l m c).length, i) ∈ l
  | 0, c => Or.inl rfl
  | m + 1, c => by
    rw [Vbwsah.following]
    cases e : Vbwsah.inputAt l (c + 1) with
    | none => exact Or.inl rfl
    | some i =>
      right
      show ∃ j, (c + (i :: Vbwsah.following l m (c + 1)).length, j) ∈ l
      rw [List.length_cons]
      rcases following_last l m (c + 1) with q | ⟨j, q⟩
      · rw [q]; exact ⟨i, inputAt_mem e⟩
      · refine ⟨j, ?_⟩
        rw [show c + ((Vbwsah.following l m (c + 1)).length + 1) = c + 1 + (Vbwsah.following l m (c + 1)).length by omega]
        exact q
structure Ticked (w w' : World) (k k' : Known) : Prop where
  body : k'.body = k.body
  sent : k'.sent = k.sent
  ack : k'.ack = k.ack
  inputs : k'.inputs = k.inputs.filter fun i => decide (Vbwsah.countOf w' k.body < i.1)
  count : Vbwsah.countOf w' k.body = Vbwsah.countOf w k.body + (Vbwsah.following k.inputs 4 (Vbwsah.countOf w k.body)).length
theorem countOf_at {c : Nat} {w : World} (g : GoodW c w) {b : Nat} (hb : b < 8) (h : Vbwsah.isBody w b = true) : (Vbwsah.countOf w b : Int) = Vbwsah.at_ w (1000 + b) := by
  obtain ⟨x, y, u, v, n, ex, ey, eu, ev, en, hx, hy, hu, hv, hn'⟩ := g.has hb h
  unfold Vbwsah.countOf Vbwsah.at_ Vbwsah.countKey
  rw [en]
  show ((n.toNat : Nat) : Int) = n
  omega
theorem tickAll_good {c : Nat} : ∀ (l : List (Nat × Known)) (w : World), GoodW (c + 1) w → (∀ k ∈ l, k.2.body < 8 ∧ Vbwsah.isBody w k.2.body = true ∧ Vbwsah.countOf w k.2.body ≤ 4 * c) → (l.map fun k => k.2.body).Nodup →
    GoodW (c + 1) (tickAll w l).1 ∧ (∀ b, b < 8 → Vbwsah.isBody (tickAll w l).1 b = Vbwsah.isBody w b) ∧ (∀ b, b < 8 → (∀ k ∈ l, k.2.body ≠ b) → Vbwsah.countOf (tickAll w l).1 b = Vbwsah.countOf w b) ∧
    ((tickAll w l).2.map fun k => (k.1, k.2.body)) = (l.map fun k => (k.1, k.2.body)) ∧ ∀ d k', (d, k') ∈ (tickAll w l).2 → ∃ k, (d, k) ∈ l ∧ Ticked w (tickAll w l).1 k k'
  | [], w, g, _, _ => ⟨g, fun b _ => rfl, fun b _ _ => rfl, rfl, fun d k' h => by cases h⟩
  | k :: l, w, g, hl, nd => by
    obtain ⟨h8, hb, hc⟩ := hl k List.mem_cons_self
    rw [List.map_cons, List.nodup_cons] at nd
    have hlen := following_len k.2.inputs 4 (Vbwsah.countOf w k.2.body)
    have hat := countOf_at g h8 hb
    obtain ⟨g1, b1, c1⟩ := followed_good (Vbwsah.following k.2.inputs 4 (Vbwsah.countOf w k.2.body)) g h8 hb (Nat.le_refl (c + 1)) (by rw [← hat]; omega)
    have hne : ∀ q ∈ l, q.2.body ≠ k.2.body := fun q hq e => nd.1 (by rw [← e]; exact List.mem_map.mpr ⟨q, hq, rfl⟩)
    obtain ⟨g2, b2, c2, m2, r2⟩ := tickAll_good l (tickOne w k.2).1 g1 (fun q hq => by
      obtain ⟨a1, a2, a3⟩ := hl q (List.mem_cons_of_mem _ hq)
      refine ⟨a1, (b1 _ a1).trans a2, ?_⟩
      have := c1 q.2.body a1
      rw [if_neg (hne q hq)] at this
      show Vbwsah.countOf (Vbwsah.followed w k.2.body _) q.2.body ≤ 4 * c
      rw [this]; exact a3) nd.2
    have ck : Vbwsah.countOf (tickAll (tickOne w k.2).1 l).1 k.2.body = Vbwsah.countOf (tickOne w k.2).1 k.2.body := c2 _ h8 hne
    have ck1 := c1 k.2.body h8
    rw [if_pos rfl] at ck1
    refine ⟨g2, fun b hb' => (b2 b hb').trans (b1 b hb'), fun b hb' hf => ?_, ?_, fun d k' h => ?_⟩
    · have e1 := c2 b hb' fun q hq => hf q (List.mem_cons_of_mem _ hq)
      have e2 := c1 b hb'
      rw [if_neg (fun z => hf k List.mem_cons_self z.symm)] at e2
      exact e1.trans e2
    · show (k.1, k.2.body) :: (tickAll (tickOne w k.2).1 l).2.map (fun k => (k.1, k.2.body)) = _
      rw [m2]; rfl
    · rcases List.mem_cons.mp h with e | e
      · cases e
        refine ⟨k.2, List.mem_cons_self, rfl, rfl, rfl, ?_, ?_⟩
        · show k.2.inputs.filter _ = k.2.inputs.filter _
          congr 1
          funext i
          show decide (Vbwsah.countOf (tickOne w k.2).1 k.2.body < i.1) = decide (Vbwsah.countOf (tickAll (tickOne w k.2).1 l).1 k.2.body < i.1)
          rw [ck]
        · show Vbwsah.countOf (tickAll (tickOne w k.2).1 l).1 k.2.body = _
          rw [ck]; exact ck1
      · obtain ⟨k0, hk0, t⟩ := r2 d k' e
        have a1 := (hl _ (List.mem_cons_of_mem _ hk0)).1
        have e2 := c1 k0.body a1
        rw [if_neg (hne _ hk0)] at e2
        have e3 : Vbwsah.countOf (tickOne w k.2).1 k0.body = Vbwsah.countOf w k0.body := e2
        refine ⟨k0, List.mem_cons_of_mem _ hk0, t.body, t.sent, t.ack, t.inputs, ?_⟩
        have := t.count
        rw [e3] at this
        exact this
theorem past_keep {t : Nat} (w : World) (hist' : Nat → World) (hw : hist' (t + 1) = w) (he : ∀ j, j ≤ t → hist' j = hist j) :
    Vbwsah.keepPast ((List.range (min t 64)).map fun i => (t - i, hist (t - i))) (t + 1) w = (List.range (min (t + 1) 64)).map fun i => (t + 1 - i, hist' (t + 1 - i)) := by
  unfold Vbwsah.keepPast Vbwsah.HISTORY
  rw [show (64 : Nat) = 63 + 1 from rfl, List.take_succ_cons, ← List.map_take, List.take_range]
  have e1 : min (t + 1) (63 + 1) = (min 63 (min t (63 + 1))) + 1 := by omega
  rw [e1, List.range_succ_eq_map, List.map_cons, List.map_map]
  congr 1
  · rw [Nat.sub_zero, hw]
  · refine List.map_congr_left fun i hi => ?_
    have := List.mem_range.mp hi
    show (t - i, hist (t - i)) = (t + 1 - (i + 1), hist' (t + 1 - (i + 1)))
    rw [show t + 1 - (i + 1) = t - i by omega, he (t - i) (by omega)]
theorem inv_tick (h : HInv n s hist) : ∃ hist', HInv (n + 1) (Vbwsah.step s .tick).1 hist' ∧ ∀ t, t ≤ s.tick → hist' t = hist t := by
  rw [Vbwsah.step]
  split
  · exact ⟨hist, h.more, fun t _ => rfl⟩
  show ∃ hist', HInv (n + 1) (Vbwsah.ticked s) hist' ∧ _
  rw [ticked_eq]
  obtain ⟨g, bq, cq, mq, rq⟩ := tickAll_good (c := s.tick) s.known s.world (h.world.mono (Nat.le_succ _)) (fun k hk => by
    obtain ⟨h8, hb⟩ := h.body k hk
    refine ⟨h8, hb, ?_⟩
    obtain ⟨x, y, u, v, m, ex, ey, eu, ev, en, hx, hy, hu, hv, hn'⟩ := h.world.has h8 hb
    have : Vbwsah.countOf s.world k.2.body = m.toNat := by
      unfold Vbwsah.countOf Vbwsah.at_ Vbwsah.countKey
      rw [en]; rfl
    rw [this]; omega) h.bods
  generalize hw : (tickAll s.world s.known).1 = w' at *
  generalize hk : (tickAll s.world s.known).2 = known' at *
  have e0 : ∀ t, t ≤ s.tick → (fun t => if t = s.tick + 1 then w' else hist t) t = hist t := fun t ht => if_neg (by omega)
  refine ⟨fun t => if t = s.tick + 1 then w' else hist t, ?_, e0⟩
  have e1 : (fun t => if t = s.tick + 1 then w' else hist t) (s.tick + 1) = w' := if_pos rfl
  generalize (fun t => if t = s.tick + 1 then w' else hist t) = hist' at *
  have same' : s.clients.map (fun c => (c.1, c.2.body)) = known'.map (fun k => (k.1, k.2.body)) := by rw [mq]; exact h.same
  have fst' : known'.map (·.1) = s.known.map (·.1) := by
    have := congrArg (List.map Prod.fst) mq
    rw [List.map_map, List.map_map] at this
    exact this
  have bod' : known'.map (fun k => k.2.body) = s.known.map (fun k => k.2.body) := by
    have := congrArg (List.map Prod.snd) mq
    rw [List.map_map, List.map_map] at this
    exact this
  have back : ∀ k ∈ known', ∃ k0, (k.1, k0) ∈ s.known ∧ Ticked s.world w' k0 k.2 := fun k hk => rq k.1 k.2 hk
  refine
    { h0 := by rw [e0 0 (Nat.zero_le _)]; exact h.h0
      good := fun t ht => ?_
      world := g
      tick := Nat.succ_le_succ h.tick
      past := by
        show Vbwsah.keepPast s.past (s.tick + 1) w' = _
        rw [h.past]
        exact past_keep w' hist' e1 e0
      same := same'
      nums := by show (known'.map (·.1)).Nodup; rw [fst']; exact h.nums
      num9 := fun k hk => by
        obtain ⟨k0, h0, _⟩ := back k hk
        exact h.num9 (k.1, k0) h0
      bods := by show (known'.map fun k => k.2.body).Nodup; rw [bod']; exact h.bods
      four := by
        show known'.length ≤ 4
        have := congrArg List.length fst'
        rw [List.length_map, List.length_map] at this
        rw [this]; exact h.four
      body := fun k hk => by
        obtain ⟨k0, h0, t⟩ := back k hk
        obtain ⟨a1, a2⟩ := h.body _ h0
        rw [t.body]
        exact ⟨a1, (bq _ a1).trans a2⟩
      free := fun b h8 hf => ?_
      pk := h.pk
      pkc := fun p hp => by
        obtain ⟨k, hk⟩ := h.pkc p hp
        have : clientOf p ∈ known'.map (·.1) := by rw [fst']; exact List.mem_map.mpr ⟨_, hk, rfl⟩
        obtain ⟨⟨c, k'⟩, hk', e⟩ := List.mem_map.mp this
        have e' : c = clientOf p := e
        exact ⟨k', by rw [← e']; exact hk'⟩
      drift := h.drift
      per := fun c k' x h1 h2 => ?_ }
  · by_cases e : t = s.tick + 1
    · rw [e, e1]; exact g
    · have ht' : t ≤ s.tick + 1 := ht
      rw [e0 t (by omega)]; exact h.good t (by omega)
  · have hf' : ∀ k ∈ s.known, k.2.body ≠ b := fun k hk => by
      have : k.2.body ∈ known'.map (fun k => k.2.body) := by rw [bod']; exact List.mem_map.mpr ⟨k, hk, rfl⟩
      obtain ⟨k', hk', e⟩ := List.mem_map.mp this
      rw [← e]; exact hf k' hk'
    obtain ⟨f1, f2⟩ := h.free b h8 hf'
    have e3 : Vbwsah.countOf w' b = 0 := by rw [cq b h8 hf']; exact f1
    refine ⟨e3, fun t ht => ?_⟩
    by_cases e : t = s.tick + 1
    · rw [e, e1]; exact e3
    · have ht' : t ≤ s.tick + 1 := ht
      rw [e0 t (by omega)]; exact f2 t (by omega)
  · obtain ⟨k, hk0, t⟩ := rq c k' h1
    obtain ⟨all, recv, p⟩ := h.per c k x hk0 h2
    have kle : ∀ y ∈ all, hist' y = hist y := fun y hy => e0 y (p.tAll y hy).2
    have cb : Vbwsah.countOf w' k.body < x.next := by
      rw [t.count]
      rcases following_last k.inputs 4 (Vbwsah.countOf s.world k.body) with q | ⟨i, q⟩
      · rw [q]; exact p.cnt
      · exact (p.kinB _ q).2
    refine ⟨all, recv, ?_⟩
    exact
      { same := by rw [t.body]; exact p.same
        dAll := p.dAll
        tAll := fun y hy => ⟨(p.tAll y hy).1, Nat.le_succ_of_le (p.tAll y hy).2⟩
        dRecv := p.dRecv
        sub := p.sub
        sent := by
          rw [t.sent, p.sent]
          refine List.map_congr_left fun y hy => ?_
          rw [kle y (List.mem_of_mem_take hy)]
        ring := p.ring
        ringW := fun q hq => by
          obtain ⟨a, b⟩ := p.ringW q hq
          refine ⟨a.mono (Nat.le_succ _), fun j => ?_⟩
          have hm : q.1 ∈ recv := by
            have : q.1 ∈ x.ring.map (·.1) := List.mem_map.mpr ⟨q, hq, rfl⟩
            rw [p.ring] at this
            exact List.mem_of_mem_take this
          rw [b j, kle q.1 (p.sub _ hm)]
        ack := by rw [t.ack]; exact p.ack
        down := fun y b d hp => by
          obtain ⟨q1, q2, q3⟩ := p.down y b d hp
          refine ⟨q1, ?_, q3⟩
          have hb : hist' b = hist b := by
            rcases q3 with z | z
            · rw [z]; exact e0 0 (Nat.zero_le _)
            · exact kle b (p.sub b z.1)
          rw [q2, hb, kle y q1]
        up := p.up
        kin := by
          rw [t.inputs]
          exact List.Pairwise.sublist (List.Sublist.map _ List.filter_sublist) p.kin
        kinB := fun i hi => by
          rw [t.inputs] at hi
          obtain ⟨q1, q2⟩ := List.mem_filter.mp hi
          rw [t.body]
          exact ⟨by simpa using q2, (p.kinB i q1).2⟩
        xin := p.xin
        xinB := p.xinB
        xlen := p.xlen
        next := ⟨p.next.1, Nat.le_succ_of_le p.next.2⟩
        cnt := by rw [t.body]; exact cb
        hcnt := fun y hy => by
          rw [t.body]
          by_cases e : y = s.tick + 1
          · rw [e, e1]; exact cb
          · have hy' : y ≤ s.tick + 1 := hy
            rw [e0 y (by omega)]; exact p.hcnt y (by omega)
        clock := p.clock }
end MN
set_option Elab.async false
namespace MN
open Vbwsae (T Change)
open Vbwsah (World Input Numbered Known Client State Packet Ring Clock Frac)
variable {n : Nat} {s : State} {hist : Nat → World}
theorem knownAt_mem (h : HInv n s hist) {c : Nat} {k : Known} : Vbwsah.knownAt s c = some k ↔ (c, k) ∈ s.known := ⟨fun q => find_mem q, fun q => mem_find h.nums q⟩
theorem clientAt_mem (h : HInv n s hist) {c : Nat} {x : Client} : Vbwsah.clientAt s c = some x ↔ (c, x) ∈ s.clients := ⟨fun q => find_mem q, fun q => mem_find h.numsC q⟩
/-- a call on a client: it is there on both sides, or it is refused -/
theorem onClient_cases (h : HInv n s hist) (c : Int) (f : Client → Known → State × Vbwsah.Ans) :
    (∃ x k, 0 ≤ c ∧ (c.toNat, x) ∈ s.clients ∧ (c.toNat, k) ∈ s.known ∧ Vbwsah.onClient s c f = f x k) ∨ ((c < 0 ∨ (∀ k, (c.toNat, k) ∉ s.known) ∧ ∀ x, (c.toNat, x) ∉ s.clients) ∧ Vbwsah.onClient s c f = (s, [-1])) := by
  unfold Vbwsah.onClient
  by_cases c0 : c < 0
  · rw [if_pos c0]
    exact Or.inr ⟨Or.inl c0, rfl⟩
  · rw [if_neg c0]
    cases e : Vbwsah.clientAt s c.toNat with
    | none =>
      have nx : ∀ x, (c.toNat, x) ∉ s.clients := fun x hx => by rw [(clientAt_mem h).mpr hx] at e; cases e
      refine Or.inr ⟨Or.inr ⟨fun k hk => ?_, nx⟩, ?_⟩
      · obtain ⟨x, hx, _⟩ := h.client_of hk
        exact nx x hx
      · cases Vbwsah.knownAt s c.toNat <;> rfl
    | some x =>
      have hx := (clientAt_mem h).mp e
      obtain ⟨k, hk, _⟩ := h.known_of hx
      rw [(knownAt_mem h).mpr hk]
      exact Or.inl ⟨x, k, by omega, hx, hk, rfl⟩
theorem onClient_elim (h : HInv n s hist) (c : Int) (f : Client → Known → State × Vbwsah.Ans) (P : State × Vbwsah.Ans → Prop) (hno : P (s, [-1])) (hyes : ∀ x k, 0 ≤ c → (c.toNat, x) ∈ s.clients → (c.toNat, k) ∈ s.known → P (f x k)) : P (Vbwsah.onClient s c f) := by
  rcases onClient_cases h c f with ⟨x, k, c0, hx, hk, e⟩ | ⟨_, e⟩
  · rw [e]; exact hyes x k c0 hx hk
  · rw [e]; exact hno
/-- a packet for another client -/
theorem Per.other {c : Nat} {k : Known} {x : Client} {all recv : List Nat} (p : Per n s hist c k x all recv) {pk : Packet} (ne : clientOf pk ≠ c) {s' : State} (et : s'.tick = s.tick) (ep : s'.packets = s.packets ++ [pk]) (ew : s'.world = s.world) : Per (n + 1) s' hist c k x all recv :=
  { p with
    tAll := by rw [et]; exact p.tAll
    ringW := by rw [et]; exact p.ringW
    down := fun t b d hp => by
      rw [ep] at hp
      rcases List.mem_append.mp hp with q | q
      · exact p.down t b d q
      · simp at q
        rw [← q] at ne
        exact absurd rfl ne
    up := fun a is hp => by
      rw [ep] at hp
      rcases List.mem_append.mp hp with q | q
      · exact p.up a is q
      · simp at q
        rw [← q] at ne
        exact absurd rfl ne
    kinB := by rw [ew]; exact p.kinB
    next := ⟨p.next.1, Nat.le_succ_of_le p.next.2⟩
    cnt := by rw [ew]; exact p.cnt
    hcnt := by rw [et]; exact p.hcnt }
/-- a client's two sides are changed, its number and body stay -/
theorem HInv.change (h : HInv n s hist) {c : Nat} {k k' : Known} {x x' : Client} (hk : (c, k) ∈ s.known) (hx : (c, x) ∈ s.clients) (bk : k'.body = k.body) (bx : x'.body = x.body) {pks : List Packet} (lp : pks.length ≤ 200) (cp : ∀ p ∈ pks, p ∈ s.packets ∨ clientOf p = c)
    {s' : State} (es : s' = { s with known := setRow s.known c k', clients := setRow s.clients c x', packets := pks })
    (hp : ∃ all' recv', Per (n + 1) s' hist c k' x' all' recv')
    (ho : ∀ c' k0 x0 all recv, c' ≠ c → Per n s hist c' k0 x0 all recv → Per (n + 1) s' hist c' k0 x0 all recv) : HInv (n + 1) s' hist := by
  subst es
  exact
    { h.more with
      same := by
        show (setRow s.clients c x').map _ = (setRow s.known c k').map _
        rw [setRow_map h.numsC hx _ (by show (c, x'.body) = (c, x.body); rw [bx]), setRow_map h.nums hk _ (by show (c, k'.body) = (c, k.body); rw [bk])]
        exact h.same
      nums := by show ((setRow s.known c k').map (·.1)).Nodup; rw [setRow_fst]; exact h.nums
      num9 := fun q hq => by
        rcases setRow_mem (c' := q.1) (k' := q.2) hq with z | z
        · rw [z.1]; exact h.num9 _ hk
        · exact h.num9 _ z.2
      bods := by show ((setRow s.known c k').map fun k => k.2.body).Nodup; rw [setRow_map h.nums hk _ (by show k'.body = k.body; exact bk)]; exact h.bods
      four := by show (setRow s.known c k').length ≤ 4; rw [setRow_len]; exact h.four
      body := fun q hq => by
        rcases setRow_mem (c' := q.1) (k' := q.2) hq with z | z
        · rw [z.2, bk]; exact h.body _ hk
        · exact h.body _ z.2
      free := fun b h8 hf => h.free b h8 fun q hq => by
        by_cases e : q.1 = c
        · have := hf (c, k') (setRow_new hk)
          have e2 : q = (c, k) := by
            have h1 : (c, q.2) ∈ s.known := by rw [← e]; exact hq
            rw [nodup_mem h.nums hk h1, ← e]
          rw [e2]
          show k.body ≠ b
          rw [← bk]; exact this
        · exact hf q (setRow_old (c' := q.1) (k' := q.2) e hq)
      pk := lp
      pkc := fun p hp => by
        have : ∃ k0, (clientOf p, k0) ∈ s.known := by
          rcases cp p hp with z | z
          · exact h.pkc p z
          · rw [z]; exact ⟨k, hk⟩
        obtain ⟨k0, h0⟩ := this
        by_cases e : clientOf p = c
        · rw [e]; exact ⟨k', setRow_new hk⟩
        · exact ⟨k0, setRow_old e h0⟩
      per := fun c' k0 x0 h1 h2 => by
        rcases setRow_mem h1 with z | z
        · rcases setRow_mem h2 with y | y
          · obtain ⟨rfl, rfl⟩ := z
            obtain ⟨_, rfl⟩ := y
            exact hp
          · exact absurd z.1 y.1
        · rcases setRow_mem h2 with y | y
          · exact absurd y.1 z.1
          · obtain ⟨all, recv, p⟩ := h.per c' k0 x0 z.2 y.2
            exact ⟨all, recv, ho c' k0 x0 all recv z.1 p⟩ }
theorem setRow_same {β : Type} : ∀ {l : List (Nat × β)} {c : Nat} {k : β}, (l.map (·.1)).Nodup → (c, k) ∈ l → setRow l c k = l := by
  intro l c k nd hk
  unfold setRow
  conv => rhs; rw [← List.map_id l]
  refine List.map_congr_left fun p hp => ?_
  show (if p.1 = c then (c, k) else p) = p
  split
  · rename_i e
    have h1 : (c, p.2) ∈ l := by rw [← e]; exact hp
    rw [nodup_mem nd hk h1, ← e]
  · rfl
theorem told_hist (h : HInv n s hist) (ht : s.tick ≠ 0) : Vbwsah.told s = hist s.tick := by
  unfold Vbwsah.told
  rw [h.past]
  obtain ⟨m, e⟩ : ∃ m, min s.tick 64 = m + 1 := ⟨min s.tick 64 - 1, by omega⟩
  rw [e, List.range_succ_eq_map]
  rfl
/-- what is found among the worlds sent -/
theorem sent_find {all : List Nat} (hist : Nat → World) (t : Nat) : (((all.map fun t => (t, hist t)).find? fun x => x.1 == t).map fun x => x.2) = if t ∈ all then some (hist t) else none := by
  induction all with
  | nil => simp
  | cons a l ih =>
    rw [List.map_cons, List.find?_cons]
    by_cases e : a = t
    · subst e; simp
    · have e' : (a == t) = false := by simp [e]
      show Option.map _ (match (a == t) with | true => some (a, hist a) | false => _) = _
      rw [e']
      show Option.map _ (List.find? _ _) = _
      rw [ih]
      by_cases m : t ∈ l
      · rw [if_pos m, if_pos (List.mem_cons_of_mem _ m)]
      · rw [if_neg m, if_neg (by simp [m]; exact fun z => e z.symm)]
theorem newest_sent {all : List Nat} {hist : Nat → World} : Vbwsah.newest ((all.take 16).map fun t => (t, hist t)) = all.headD 0 := by
  cases all with
  | nil => rfl
  | cons a l => rfl
/-- the base that is chosen -/
def baseFor (k : Known) : Nat := if k.ack ≠ 0 ∧ (k.sent.any fun x => x.1 == k.ack) = true then k.ack else 0
theorem downFor_eq (h : HInv n s hist) (ht : s.tick ≠ 0) {c : Nat} {k : Known} {x : Client} {all recv : List Nat} (p : Per n s hist c k x all recv) (c' : Nat) :
    Vbwsah.downFor s c' k = .down c' s.tick (if k.ack ∈ all.take 16 then k.ack else 0) (Vbwsae.diff Vbwsah.same (hist (if k.ack ∈ all.take 16 then k.ack else 0)) (hist s.tick)) := by
  unfold Vbwsah.downFor
  rw [told_hist h ht]
  have z0 : (0 : Nat) ∉ all.take 16 := fun z => by have := (p.tAll 0 (List.mem_of_mem_take z)).1; omega
  unfold Vbwsah.worldAt
  by_cases a0 : k.ack = 0
  · rw [if_pos a0, a0, if_neg z0, h.h0]
  · rw [if_neg a0, p.sent, sent_find hist]
    by_cases m : k.ack ∈ all.take 16
    · rw [if_pos m, if_pos m]
    · rw [if_neg m, if_neg m, h.h0]
theorem inv_send (h : HInv n s hist) (c : Int) : HInv (n + 1) (Vbwsah.step s (.send c)).1 hist := by
  rw [Vbwsah.step]
  refine onClient_elim h c _ (fun r => HInv (n + 1) r.1 hist) h.more fun x k c0 hx hk => ?_
  dsimp only
  split
  · exact h.more
  rename_i ht
  split
  · exact h.more
  rename_i hp
  simp only [Vbwsah.PACKETS] at hp
  obtain ⟨all, recv, p⟩ := h.per _ k x hk hx
  have ed := downFor_eq h ht p c.toNat
  generalize hb : (if k.ack ∈ all.take 16 then k.ack else 0) = b at ed
  generalize hd : Vbwsae.diff Vbwsah.same (hist b) (hist s.tick) = d at ed
  rw [ed]
  have en : Vbwsah.newest k.sent = all.headD 0 := by rw [p.sent, newest_sent]
  have hb' : b = 0 ∨ (b ∈ recv ∧ b ∈ all.take 16) := by
    split at hb
    · rename_i m
      rcases p.ack with z | z
      · left; omega
      · right; rw [← hb]; exact ⟨z, m⟩
    · left; exact hb.symm
  have hbl : b = 0 ∨ (b ∈ recv ∧ b ≤ s.tick ∧ (all.filter fun y => decide (b < y) && decide (y < s.tick)).length ≤ 15) := by
    rcases hb' with z | ⟨z1, z2⟩
    · exact Or.inl z
    · right
      refine ⟨z1, (p.tAll b (List.mem_of_mem_take z2)).2, ?_⟩
      have q := take_desc p.dAll z2
      have : (all.filter fun y => decide (b < y) && decide (y < s.tick)).length ≤ (all.filter fun y => decide (b < y)).length := by
        rw [← List.filter_filter]
        have e : (all.filter fun y => decide (y < s.tick)).filter (fun y => decide (b < y)) = (all.filter fun y => decide (b < y)).filter (fun y => decide (y < s.tick)) := by
          rw [List.filter_filter, List.filter_filter]
          congr 1
          funext y
          exact Bool.and_comm _ _
        rw [e]
        exact List.length_filter_le _ _
      omega
  refine h.change (k' := { k with sent := if Vbwsah.newest k.sent = s.tick then k.sent else Vbwsah.keep k.sent s.tick (Vbwsah.told s) }) (x' := x) hk hx rfl rfl (pks := s.packets ++ [.down c.toNat s.tick b d]) (by rw [List.length_append]; simp; omega)
    (fun q hq => by
      rcases List.mem_append.mp hq with z | z
      · exact Or.inl z
      · simp at z; rw [z]; exact Or.inr rfl) (by rw [setRow_same h.numsC hx]; rfl) ?_ (fun c' k0 x0 all2 recv2 ne p2 => p2.other (pk := .down c.toNat s.tick b d) (fun z => ne z.symm) rfl rfl rfl)
  have up' : ∀ a is, Packet.up c.toNat a is ∈ s.packets ++ [.down c.toNat s.tick b d] → Packet.up c.toNat a is ∈ s.packets := fun a is hq => by
    rcases List.mem_append.mp hq with z | z
    · exact z
    · simp at z
  by_cases en1 : Vbwsah.newest k.sent = s.tick
  · -- sent once more
    have hm : s.tick ∈ all := by
      rw [en] at en1
      cases all with
      | nil => exact absurd en1.symm ht
      | cons a l =>
        have ea : a = s.tick := en1
        rw [ea]; exact List.mem_cons_self
    refine ⟨all, recv, { p with
      sent := by show (if _ then k.sent else _) = _; rw [if_pos en1]; exact p.sent
      down := fun t b2 d2 hq => ?_
      up := fun a is hq => p.up a is (up' a is hq)
      next := ⟨p.next.1, Nat.le_succ_of_le p.next.2⟩ }⟩
    rcases List.mem_append.mp hq with z | z
    · exact p.down t b2 d2 z
    · simp at z
      obtain ⟨rfl, rfl, rfl⟩ := z
      exact ⟨hm, hd.symm, hbl⟩
  · have lt : ∀ y ∈ all, y < s.tick := fun y hy => by
      rw [en] at en1
      cases all with
      | nil => cases hy
      | cons a l =>
        have ea : a ≠ s.tick := en1
        have h1 := (p.tAll a List.mem_cons_self).2
        rcases List.mem_cons.mp hy with z | z
        · omega
        · have := (List.pairwise_cons.mp p.dAll).1 y z
          omega
    refine ⟨s.tick :: all, recv, { p with
      dAll := List.pairwise_cons.mpr ⟨lt, p.dAll⟩
      tAll := fun t htt => by
        rcases List.mem_cons.mp htt with z | z
        · rw [z]; exact ⟨by omega, Nat.le_refl _⟩
        · exact p.tAll t z
      sub := fun t htt => List.mem_cons_of_mem _ (p.sub t htt)
      sent := by
        show (if _ then k.sent else _) = _
        rw [if_neg en1]
        unfold Vbwsah.keep Vbwsah.RING
        rw [told_hist h ht, p.sent, show (16 : Nat) = 15 + 1 from rfl, List.take_succ_cons, List.take_succ_cons, List.map_cons, ← List.map_take, List.take_take]
        rfl
      down := fun t b2 d2 hq => ?_
      up := fun a is hq => p.up a is (up' a is hq)
      next := ⟨p.next.1, Nat.le_succ_of_le p.next.2⟩ }⟩
    rcases List.mem_append.mp hq with z | z
    · obtain ⟨q1, q2, q3⟩ := p.down t b2 d2 z
      refine ⟨List.mem_cons_of_mem _ q1, q2, q3.imp id fun ⟨r1, r2, r3⟩ => ⟨r1, r2, ?_⟩⟩
      rw [List.filter_cons, if_neg (by have := (p.tAll t q1).2; simp; omega)]
      exact r3
    · simp at z
      obtain ⟨rfl, rfl, rfl⟩ := z
      refine ⟨List.mem_cons_self, hd.symm, hbl.imp id fun ⟨r1, r2, r3⟩ => ⟨r1, r2, ?_⟩⟩
      rw [List.filter_cons, if_neg (by simp)]
      exact r3
theorem newest_ring {x : Client} {recv : List Nat} (e : x.ring.map (·.1) = recv.take 16) : Vbwsah.newest x.ring = recv.headD 0 := by
  unfold Vbwsah.newest
  cases hr : x.ring with
  | nil =>
    rw [hr] at e
    cases recv with
    | nil => rfl
    | cons a l => cases e
  | cons q l =>
    rw [hr] at e
    cases recv with
    | nil => cases e
    | cons a l2 =>
      have : q.1 = a := by
        have := congrArg List.head? e
        simpa using this
      exact this
theorem head_mem (recv : List Nat) : recv.headD 0 = 0 ∨ recv.headD 0 ∈ recv := by
  cases recv with
  | nil => exact Or.inl rfl
  | cons a l => exact Or.inr List.mem_cons_self
theorem inv_up (h : HInv n s hist) (c : Int) : HInv (n + 1) (Vbwsah.step s (.up c)).1 hist := by
  rw [Vbwsah.step]
  refine onClient_elim h c _ (fun r => HInv (n + 1) r.1 hist) h.more fun x k c0 hx hk => ?_
  split
  · exact h.more
  rename_i hp
  simp only [Vbwsah.PACKETS] at hp
  obtain ⟨all, recv, p⟩ := h.per _ k x hk hx
  refine h.change (k' := k) (x' := x) hk hx rfl rfl (pks := s.packets ++ [.up c.toNat (Vbwsah.newest x.ring) x.inputs]) (by rw [List.length_append]; simp; omega)
    (fun q hq => by
      rcases List.mem_append.mp hq with z | z
      · exact Or.inl z
      · simp at z; rw [z]; exact Or.inr rfl) (by rw [setRow_same h.numsC hx, setRow_same h.nums hk]) ?_ (fun c' k0 x0 all2 recv2 ne p2 => p2.other (pk := .up c.toNat (Vbwsah.newest x.ring) x.inputs) (fun z => ne z.symm) rfl rfl rfl)
  refine ⟨all, recv, { p with
      down := fun t b2 d2 hq => ?_
      up := fun a is hq => ?_
      next := ⟨p.next.1, Nat.le_succ_of_le p.next.2⟩ }⟩
  · rcases List.mem_append.mp hq with z | z
    · exact p.down t b2 d2 z
    · simp at z
  · rcases List.mem_append.mp hq with z | z
    · exact p.up a is z
    · simp at z
      obtain ⟨rfl, rfl⟩ := z
      refine ⟨?_, p.xlen, p.xin, fun i hi => ⟨(p.xinB i hi).1, (p.xinB i hi).2.1⟩⟩
      rw [newest_ring p.ring]
      exact head_mem recv
theorem Per.still {c : Nat} {k : Known} {x : Client} {all recv : List Nat} (p : Per n s hist c k x all recv) {s' : State} (et : s'.tick = s.tick) (ep : s'.packets = s.packets) (ew : s'.world = s.world) : Per (n + 1) s' hist c k x all recv :=
  p.mono (Nat.le_succ n) et ep (by rw [ew])
theorem inv_input (h : HInv n s hist) (c ax ay : Int) : HInv (n + 1) (Vbwsah.step s (.input c ax ay)).1 hist := by
  rw [Vbwsah.step]
  refine onClient_elim h c _ (fun r => HInv (n + 1) r.1 hist) h.more fun x k c0 hx hk => ?_
  split
  · exact h.more
  split
  · exact h.more
  rename_i hp
  simp only [Vbwsah.INPUTS] at hp
  obtain ⟨all, recv, p⟩ := h.per _ k x hk hx
  refine h.change (k' := k) (x' := { x with inputs := x.inputs ++ [(x.next, ⟨ax, ay⟩)], next := x.next + 1 }) hk hx rfl rfl (pks := s.packets) h.pk (fun q hq => Or.inl hq) (by rw [setRow_same h.nums hk]; rfl) ?_ (fun c' k0 x0 all2 recv2 ne p2 => p2.still rfl rfl rfl)
  have hbase : Vbwsah.countOf (Vbwsah.baseOf x) x.body < x.next := by
    unfold Vbwsah.baseOf
    cases hr : x.ring with
    | nil =>
      have := p.next.1
      show Vbwsah.countOf .none x.body < x.next
      have e : Vbwsah.countOf (.none : World) x.body = 0 := rfl
      omega
    | cons q l =>
      show Vbwsah.countOf q.2 x.body < x.next
      have hq : q ∈ x.ring := by rw [hr]; exact List.mem_cons_self
      rw [countOf_eq (v := hist q.1) ((p.ringW q hq).2 _), p.same]
      refine p.hcnt q.1 ?_
      have : q.1 ∈ x.ring.map (·.1) := List.mem_map.mpr ⟨q, hq, rfl⟩
      rw [p.ring] at this
      exact (p.tAll _ (p.sub _ (List.mem_of_mem_take this))).2
  refine ⟨all, recv, { p with
      same := p.same
      ring := p.ring
      ringW := p.ringW
      up := fun a is hq => by
        obtain ⟨q1, q2, q3, q4⟩ := p.up a is hq
        exact ⟨q1, q2, q3, fun i hi => ⟨(q4 i hi).1, Nat.lt_succ_of_lt (q4 i hi).2⟩⟩
      kinB := fun i hi => ⟨(p.kinB i hi).1, Nat.lt_succ_of_lt (p.kinB i hi).2⟩
      xin := by
        show ((x.inputs ++ [(x.next, (⟨ax, ay⟩ : Input))]).map (·.1)).Pairwise (· < ·)
        rw [List.map_append, List.pairwise_append]
        refine ⟨p.xin, by simp, fun a ha b hb => ?_⟩
        simp at hb
        obtain ⟨i, hi, rfl⟩ := List.mem_map.mp ha
        rw [hb]; exact (p.xinB i hi).2.1
      xinB := fun i hi => by
        rcases List.mem_append.mp hi with z | z
        · obtain ⟨q1, q2, q3⟩ := p.xinB i z
          exact ⟨q1, Nat.lt_succ_of_lt q2, q3⟩
        · simp at z
          rw [z]
          exact ⟨p.next.1, Nat.lt_succ_self _, hbase⟩
      xlen := by
        show (x.inputs ++ [(x.next, (⟨ax, ay⟩ : Input))]).length ≤ 64
        rw [List.length_append]; simp; omega
      next := ⟨Nat.le_succ_of_le p.next.1, Nat.succ_le_succ p.next.2⟩
      cnt := Nat.lt_succ_of_lt p.cnt
      hcnt := fun t htt => Nat.lt_succ_of_lt (p.hcnt t htt)
      clock := p.clock }⟩
theorem inv_clock (h : HInv n s hist) {c : Nat} {x : Client} {k : Known} (hx : (c, x) ∈ s.clients) (hk : (c, k) ∈ s.known) {ck : Clock} (ok : ∃ m j, ClockOk ck m j) : HInv (n + 1) (Vbwsah.setClient s c { x with clock := some ck }) hist := by
  obtain ⟨all, recv, p⟩ := h.per _ k x hk hx
  refine h.change (k' := k) (x' := { x with clock := some ck }) hk hx rfl rfl (pks := s.packets) h.pk (fun q hq => Or.inl hq) (by rw [setRow_same h.nums hk]; rfl) ?_ (fun c' k0 x0 all2 recv2 ne p2 => p2.still rfl rfl rfl)
  exact ⟨all, recv, { p with
    same := p.same
    ring := p.ring
    ringW := p.ringW
    up := p.up
    kinB := p.kinB
    xin := p.xin
    xinB := p.xinB
    xlen := p.xlen
    next := ⟨p.next.1, Nat.le_succ_of_le p.next.2⟩
    cnt := p.cnt
    hcnt := p.hcnt
    clock := fun ck' e => by cases e; exact ok }⟩
theorem inv_exchange (h : HInv n s hist) (c a t b : Int) : HInv (n + 1) (Vbwsah.step s (.exchange c a t b)).1 hist := by
  rw [Vbwsah.step]
  refine onClient_elim h c _ (fun r => HInv (n + 1) r.1 hist) h.more fun x k c0 hx hk => ?_
  dsimp only
  split
  · exact h.more
  rename_i hc
  simp only [not_or, Bool.not_eq_false, List.all_cons, List.all_nil, Bool.and_true, Bool.and_eq_true, inside_iff] at hc
  obtain ⟨⟨ha, ht, hb⟩, hab, _⟩ := hc
  obtain ⟨all, recv, p⟩ := h.per _ k x hk hx
  split
  · rename_i ck e
    exact inv_clock h hx hk (known_ok h.drift p.clock ha ht hb (by omega) e)
  · exact inv_clock h hx hk ⟨_, _, exchanged_ok h.drift ha ht hb (by omega)⟩
theorem inv_drift (h : HInv n s hist) (d : Int) : HInv (n + 1) (Vbwsah.step s (.drift d)).1 hist := by
  rw [Vbwsah.step]
  split
  · exact h.more
  rename_i c1
  split
  · exact h.more
  simp only [Bool.not_eq_false, inside_iff] at c1
  exact { h.more with
    drift := by show d.toNat ≤ 500; omega
    per := fun c k x h1 h2 => by
      obtain ⟨all, recv, p⟩ := h.per c k x h1 h2
      exact ⟨all, recv, p.still rfl rfl rfl⟩ }
end MN
set_option Elab.async false
namespace MN
open Vbwsae (T Change)
open Vbwsah (World Input Numbered Known Client State Packet Ring Clock Frac)
variable {n : Nat} {s : State} {hist : Nat → World}
theorem ring_nodup {k : Known} {x : Client} {c : Nat} {all recv : List Nat} (p : Per n s hist c k x all recv) : (x.ring.map (·.1)).Nodup := by
  rw [p.ring]
  exact (desc_nodup p.dRecv).sublist (List.take_sublist _ _)
/-- **a packet that isn't old has its base there, and fits** -/
theorem heard_cases (h : HInv n s hist) {c : Nat} {x : Client} {k : Known} {all recv : List Nat} (p : Per n s hist c k x all recv) {t b : Nat} {d : List (Change Int)} (hp : Packet.down c t b d ∈ s.packets) :
    (t ≤ Vbwsah.newest x.ring ∧ Vbwsah.heardDown x t b d = (1, x)) ∨
    (Vbwsah.newest x.ring < t ∧ (∀ r ∈ recv, r < t) ∧ ∃ w v, Vbwsah.worldAt x.ring b = some w ∧ ((b = 0 ∧ w = .none) ∨ (b ≠ 0 ∧ (b, w) ∈ x.ring)) ∧ WF w ∧ (∀ j, Vbwsae.get w j = Vbwsae.get (hist b) j) ∧ b ≤ s.tick ∧ t ≤ s.tick ∧
      Vbwsae.apply Vbwsah.same d w = some v ∧ WF v ∧ (∀ j, Vbwsae.get v j = Vbwsae.get (hist t) j) ∧
      Vbwsah.heardDown x t b d = (0, { x with ring := Vbwsah.keep x.ring t v, inputs := x.inputs.filter fun i => decide (Vbwsah.countOf v x.body < i.1) })) := by
  obtain ⟨q1, q2, q3⟩ := p.down t b d hp
  have en := newest_ring p.ring
  by_cases old : t ≤ Vbwsah.newest x.ring
  · left
    refine ⟨old, ?_⟩
    unfold Vbwsah.heardDown
    rw [if_pos old]
  · right
    have lt : ∀ r ∈ recv, r < t := fun r hr => by
      rw [en] at old
      cases recv with
      | nil => cases hr
      | cons a l =>
        have h1 : ¬ t ≤ a := old
        rcases List.mem_cons.mp hr with z | z
        · omega
        · have := (List.pairwise_cons.mp p.dRecv).1 r z
          omega
    have tt := (p.tAll t q1).2
    have hw : ∃ w, Vbwsah.worldAt x.ring b = some w ∧ ((b = 0 ∧ w = .none) ∨ (b ≠ 0 ∧ (b, w) ∈ x.ring)) ∧ WF w ∧ (∀ j, Vbwsae.get w j = Vbwsae.get (hist b) j) ∧ b ≤ s.tick := by
      unfold Vbwsah.worldAt
      by_cases b0 : b = 0
      · rw [if_pos b0]
        exact ⟨.none, rfl, Or.inl ⟨b0, rfl⟩, trivial, fun j => by rw [b0, h.h0], by omega⟩
      · rw [if_neg b0]
        rcases q3 with z | ⟨r1, r2, r3⟩
        · exact absurd z b0
        have hm : b ∈ recv.take 16 := by
          refine desc_take p.dRecv r1 ?_
          refine Nat.lt_succ_of_le (Nat.le_trans ?_ r3)
          refine nodup_len ((desc_nodup p.dRecv).sublist List.filter_sublist) fun y hy => ?_
          obtain ⟨y1, y2⟩ := List.mem_filter.mp hy
          rw [List.mem_filter]
          have := lt y y1
          exact ⟨p.sub y y1, by simp at y2; simp; omega⟩
        rw [← p.ring] at hm
        obtain ⟨⟨b', w⟩, hb', e⟩ := List.mem_map.mp hm
        have e' : b' = b := e
        subst e'
        refine ⟨w, mem_find (ring_nodup p) hb', Or.inr ⟨b0, hb'⟩, (p.ringW _ hb').1.wf, (p.ringW _ hb').2, ?_⟩
        exact (p.tAll b' (p.sub b' r1)).2
    obtain ⟨w, ew, hm, wf, eg, hb⟩ := hw
    obtain ⟨v, ev, wv, gv⟩ := apply_diff (h.good b hb).wf (h.good t tt).wf wf eg
    rw [← q2] at ev
    refine ⟨Nat.lt_of_not_le old, lt, w, v, ew, hm, wf, eg, hb, tt, ev, wv, gv, ?_⟩
    unfold Vbwsah.heardDown
    rw [if_neg old, ew]
    dsimp only
    rw [ev]
theorem putInput_mem {x y : Numbered} : ∀ {l : List Numbered}, y ∈ Vbwsah.putInput x l → y = x ∨ y ∈ l
  | [], h => by
    simp [Vbwsah.putInput] at h
    exact Or.inl h
  | z :: l, h => by
    rw [Vbwsah.putInput] at h
    split at h
    · rcases List.mem_cons.mp h with e | e
      · exact Or.inl e
      · exact Or.inr e
    · split at h
      · exact Or.inr h
      · rcases List.mem_cons.mp h with e | e
        · rw [e]; exact Or.inr List.mem_cons_self
        · rcases putInput_mem e with q | q
          · exact Or.inl q
          · exact Or.inr (List.mem_cons_of_mem _ q)
theorem putInput_sorted {x : Numbered} : ∀ {l : List Numbered}, (l.map (·.1)).Pairwise (· < ·) → ((Vbwsah.putInput x l).map (·.1)).Pairwise (· < ·)
  | [], _ => by simp [Vbwsah.putInput]
  | z :: l, h => by
    rw [List.map_cons, List.pairwise_cons] at h
    rw [Vbwsah.putInput]
    split
    · rename_i c
      rw [List.map_cons, List.map_cons, List.pairwise_cons, List.pairwise_cons]
      refine ⟨fun a ha => ?_, h.1, h.2⟩
      rcases List.mem_cons.mp ha with e | e
      · omega
      · have := h.1 a e; omega
    · split
      · rw [List.map_cons, List.pairwise_cons]; exact h
      · rename_i c1 c2
        rw [List.map_cons, List.pairwise_cons]
        refine ⟨fun a ha => ?_, putInput_sorted h.2⟩
        obtain ⟨y, hy, rfl⟩ := List.mem_map.mp ha
        rcases putInput_mem hy with q | q
        · rw [q]; omega
        · exact h.1 _ (List.mem_map.mpr ⟨y, q, rfl⟩)
theorem heardUp_inputs {w : World} {b : Nat} : ∀ (is : List Numbered) (l : List Numbered), (l.map (·.1)).Pairwise (· < ·) →
    ((is.foldl (fun l i => if Vbwsah.countOf w b < i.1 then Vbwsah.putInput i l else l) l).map (·.1)).Pairwise (· < ·) ∧ ∀ y ∈ is.foldl (fun l i => if Vbwsah.countOf w b < i.1 then Vbwsah.putInput i l else l) l, y ∈ l ∨ (y ∈ is ∧ Vbwsah.countOf w b < y.1)
  | [], l, h => ⟨h, fun y hy => Or.inl hy⟩
  | i :: is, l, h => by
    rw [List.foldl_cons]
    by_cases c : Vbwsah.countOf w b < i.1
    · rw [if_pos c]
      obtain ⟨r1, r2⟩ := heardUp_inputs (w := w) (b := b) is (Vbwsah.putInput i l) (putInput_sorted h)
      refine ⟨r1, fun y hy => ?_⟩
      rcases r2 y hy with q | q
      · rcases putInput_mem q with z | z
        · rw [z]; exact Or.inr ⟨List.mem_cons_self, c⟩
        · exact Or.inl z
      · exact Or.inr ⟨List.mem_cons_of_mem _ q.1, q.2⟩
    · rw [if_neg c]
      obtain ⟨r1, r2⟩ := heardUp_inputs (w := w) (b := b) is l h
      refine ⟨r1, fun y hy => ?_⟩
      rcases r2 y hy with q | q
      · exact Or.inl q
      · exact Or.inr ⟨List.mem_cons_of_mem _ q.1, q.2⟩
theorem inv_deliver (h : HInv n s hist) (p : Int) : HInv (n + 1) (Vbwsah.step s (.deliver p)).1 hist := by
  rw [Vbwsah.step]
  split
  · exact h.more
  · rename_i c t b d e
    have hp : Packet.down c t b d ∈ s.packets := by
      split at e
      · cases e
      · exact List.mem_of_getElem? e
    obtain ⟨k, hk⟩ := h.pkc _ hp
    have hk : (c, k) ∈ s.known := hk
    obtain ⟨x, hx, _⟩ := h.client_of hk
    rw [(clientAt_mem h).mpr hx]
    dsimp only
    obtain ⟨all, recv, q⟩ := h.per _ k x hk hx
    rcases heard_cases h q hp with ⟨_, e2⟩ | ⟨h1, lt, w, v, ew, hm, wf, eg, hb, tt, ev, wv, gv, e2⟩
    · rw [e2]
      show HInv (n + 1) { s with clients := setRow s.clients c x } hist
      rw [setRow_same h.numsC hx]
      exact h.more
    · rw [e2]
      refine h.change (k' := k) (x' := { x with ring := Vbwsah.keep x.ring t v, inputs := x.inputs.filter fun i => decide (Vbwsah.countOf v x.body < i.1) }) hk hx rfl rfl (pks := s.packets) h.pk (fun q hq => Or.inl hq) (by rw [setRow_same h.nums hk]; rfl) ?_ (fun c' k0 x0 all2 recv2 ne p2 => p2.still rfl rfl rfl)
      have q1 := (q.down t b d hp).1
      refine ⟨all, t :: recv, { q with
        same := q.same
        dRecv := List.pairwise_cons.mpr ⟨lt, q.dRecv⟩
        sub := fun r hr => by
          rcases List.mem_cons.mp hr with z | z
          · rw [z]; exact q1
          · exact q.sub r z
        ring := by
          show (Vbwsah.keep x.ring t v).map (·.1) = _
          unfold Vbwsah.keep Vbwsah.RING
          rw [show (16 : Nat) = 15 + 1 from rfl, List.take_succ_cons, List.take_succ_cons, List.map_cons, List.map_take, q.ring, List.take_take]
          rfl
        ringW := fun r hr => by
          have hr' : r ∈ (t, v) :: x.ring := List.mem_of_mem_take hr
          rcases List.mem_cons.mp hr' with z | z
          · rw [z]
            exact ⟨((h.good t tt).ext wv gv).mono tt, gv⟩
          · exact q.ringW r z
        ack := q.ack.imp id fun z => List.mem_cons_of_mem _ z
        down := fun t2 b2 d2 hp2 => by
          obtain ⟨r1, r2, r3⟩ := q.down t2 b2 d2 hp2
          exact ⟨r1, r2, r3.imp id fun ⟨a1, a2, a3⟩ => ⟨List.mem_cons_of_mem _ a1, a2, a3⟩⟩
        up := fun a is hp2 => by
          obtain ⟨r1, r2⟩ := q.up a is hp2
          exact ⟨r1.imp id fun z => List.mem_cons_of_mem _ z, r2⟩
        kinB := q.kinB
        xin := List.Pairwise.sublist (List.Sublist.map _ List.filter_sublist) q.xin
        xinB := fun i hi => by
          obtain ⟨i1, i2⟩ := List.mem_filter.mp hi
          obtain ⟨r1, r2, _⟩ := q.xinB i i1
          refine ⟨r1, r2, ?_⟩
          show Vbwsah.countOf v x.body < i.1
          simpa using i2
        xlen := Nat.le_trans (List.length_filter_le _ _) q.xlen
        next := ⟨q.next.1, Nat.le_succ_of_le q.next.2⟩
        cnt := q.cnt
        hcnt := q.hcnt
        clock := q.clock }⟩
  · rename_i c a is e
    have hp : Packet.up c a is ∈ s.packets := by
      split at e
      · cases e
      · exact List.mem_of_getElem? e
    obtain ⟨k, hk⟩ := h.pkc _ hp
    have hk : (c, k) ∈ s.known := hk
    obtain ⟨x, hx, _⟩ := h.client_of hk
    rw [(knownAt_mem h).mpr hk]
    dsimp only
    obtain ⟨all, recv, q⟩ := h.per _ k x hk hx
    obtain ⟨u1, u2, u3, u4⟩ := q.up a is hp
    obtain ⟨r1, r2⟩ := heardUp_inputs (w := s.world) (b := k.body) is k.inputs q.kin
    refine h.change (k' := Vbwsah.heardUp s.world k a is) (x' := x) hk hx rfl rfl (pks := s.packets) h.pk (fun q hq => Or.inl hq) (by rw [setRow_same h.numsC hx]; rfl) ?_ (fun c' k0 x0 all2 recv2 ne p2 => p2.still rfl rfl rfl)
    exact ⟨all, recv, { q with
      same := q.same
      sent := q.sent
      ack := by
        show (if _ then a else k.ack) = 0 ∨ (if _ then a else k.ack) ∈ recv
        split
        · exact u1
        · exact q.ack
      kin := r1
      kinB := fun i hi => by
        rcases r2 i hi with z | z
        · exact q.kinB i z
        · exact ⟨z.2, (u4 i z.1).2⟩
      next := ⟨q.next.1, Nat.le_succ_of_le q.next.2⟩
      cnt := q.cnt
      hcnt := q.hcnt }⟩
/-- **what holds between two calls holds behind each** -/
theorem inv_step (h : HInv n s hist) (c : Vbwsah.Call) : ∃ hist', HInv (n + 1) (Vbwsah.step s c).1 hist' := by
  cases c with
  | body b x y u v => exact ⟨hist, inv_body h b x y u v⟩
  | client c b => exact ⟨hist, inv_client h c b⟩
  | set_ k z => exact ⟨hist, inv_set h k z⟩
  | unset k => exact ⟨hist, inv_unset h k⟩
  | tick =>
    obtain ⟨hist', h', _⟩ := inv_tick h
    exact ⟨hist', h'⟩
  | send c => exact ⟨hist, inv_send h c⟩
  | up c => exact ⟨hist, inv_up h c⟩
  | deliver p => exact ⟨hist, inv_deliver h p⟩
  | input c x y => exact ⟨hist, inv_input h c x y⟩
  | world => exact ⟨hist, h.more⟩
  | base c => exact ⟨hist, onClient_elim h c _ (fun r => HInv (n + 1) r.1 hist) h.more fun x k _ _ _ => h.more⟩
  | guess c => exact ⟨hist, onClient_elim h c _ (fun r => HInv (n + 1) r.1 hist) h.more fun x k _ _ _ => h.more⟩
  | render c k z d =>
    refine ⟨hist, onClient_elim h c _ (fun r => HInv (n + 1) r.1 hist) h.more fun x k _ _ _ => ?_⟩
    split
    · exact h.more
    · split <;> exact h.more
  | shot c dx dy t1 t2 z d =>
    refine ⟨hist, onClient_elim h c _ (fun r => HInv (n + 1) r.1 hist) h.more fun x k _ _ _ => ?_⟩
    split
    · exact h.more
    · split
      · exact h.more
      · split <;> exact h.more
  | exchange c a t b => exact ⟨hist, inv_exchange h c a t b⟩
  | offset c t =>
    refine ⟨hist, onClient_elim h c _ (fun r => HInv (n + 1) r.1 hist) h.more fun x k _ _ _ => ?_⟩
    split
    · exact h.more
    · split <;> exact h.more
  | drift d => exact ⟨hist, inv_drift h d⟩
  | packet p =>
    refine ⟨hist, ?_⟩
    rw [Vbwsah.step]
    split <;> exact h.more
  | counts => exact ⟨hist, h.more⟩
  | ring c => exact ⟨hist, onClient_elim h c _ (fun r => HInv (n + 1) r.1 hist) h.more fun x k _ _ _ => h.more⟩
end MN
set_option Elab.async false
namespace MN
open Vbwsah (Frac)
/-! fractions at a time between two ticks, and shots, as whole numbers say them -/
theorem of_le_made {x n d : Int} (hd : 0 < d) : (Frac.of x).le (Frac.made n d) = decide (x * d ≤ n) := by
  rw [of_made, le_made (by decide) hd]
  exact decide_eq_decide.mpr (by rw [Int.mul_one])
theorem made_lt_of {x n d : Int} (hd : 0 < d) : (Frac.made n d).lt (Frac.of x) = decide (n < x * d) := by
  rw [of_made, lt_made hd (by decide)]
  exact decide_eq_decide.mpr (by rw [Int.mul_one])
theorem made_le_of {x n d : Int} (hd : 0 < d) : (Frac.made n d).le (Frac.of x) = decide (n ≤ x * d) := by
  rw [of_made, le_made hd (by decide)]
  exact decide_eq_decide.mpr (by rw [Int.mul_one])
theorem made_min_of {x n d : Int} (hd : 0 < d) : (Frac.made n d).min (Frac.of x) = if n ≤ x * d then Frac.made n d else Frac.made x 1 := by
  unfold Frac.min
  rw [made_le_of hd, of_made]
  by_cases c : n ≤ x * d
  · rw [if_pos c, if_pos (decide_eq_true c)]
  · rw [if_neg c, if_neg (by rw [decide_eq_false c]; decide)]
/-- a value so far on the way -/
theorem mixed_made {a b n d : Int} (hd : 0 < d) : Vbwsah.mixed a b (Frac.made n d) = Frac.made (a * d + (b - a) * n) d := by
  unfold Vbwsah.mixed
  rw [of_made, of_made, mul_made (by decide) hd, add_made (by decide) (Int.mul_pos (by decide) hd)]
  refine made_eq (Int.mul_pos (by decide) (Int.mul_pos (by decide) hd)) hd ?_
  grind
/-- how far a time is between two ticks -/
theorem way_made {t1 t2 n d : Int} (hd : 0 < d) (ht : t1 < t2) : ((Frac.made n d).sub (Frac.of t1)).div (Frac.of (t2 - t1)) = Frac.made (n - t1 * d) (d * (t2 - t1)) := by
  have h : 0 < t2 - t1 := by omega
  rw [of_made, of_made, sub_made hd (by decide), div_made (Int.mul_pos hd (by decide)) h (by decide)]
  refine made_eq (Int.mul_pos (Int.mul_pos hd (by decide)) h) (Int.mul_pos hd h) ?_
  grind
theorem between_both {t1 t2 : Nat} {w1 w2 : Vbwsah.World} {k : Nat} {a b n d : Int} (e1 : Vbwsae.get w1 k = some a) (e2 : Vbwsae.get w2 k = some b) (hd : 0 < d) (ht : t1 < t2) :
    Vbwsah.between t1 w1 t2 w2 (Frac.made n d) k = some (Frac.made (a * (d * ((t2 : Int) - t1)) + (b - a) * (n - (t1 : Int) * d)) (d * ((t2 : Int) - t1))) := by
  unfold Vbwsah.between
  rw [e1, e2]
  show some (Vbwsah.mixed a b _) = _
  rw [way_made hd (by omega), mixed_made (Int.mul_pos hd (by omega))]
/-- how near a shot comes: x and y of one denominator -/
theorem nearest_made {ox oy dx dy X Y D : Int} (hD : 0 < D) (hS : 0 < dx * dx + dy * dy) :
    Vbwsah.nearestTo ox oy dx dy (Frac.made X D) (Frac.made Y D) =
      if (X - ox * D) * dx + (Y - oy * D) * dy < 0 then (Frac.made 0 1, Frac.made ((X - ox * D) * (X - ox * D) + (Y - oy * D) * (Y - oy * D)) (D * D))
      else (Frac.made ((X - ox * D) * dx + (Y - oy * D) * dy) (D * (dx * dx + dy * dy)), Frac.made (((X - ox * D) * dy - (Y - oy * D) * dx) * ((X - ox * D) * dy - (Y - oy * D) * dx)) (D * D * (dx * dx + dy * dy))) := by
  unfold Vbwsah.nearestTo
  dsimp only
  have qx : (Frac.made X D).sub (Frac.of ox) = Frac.made (X - ox * D) D := by
    rw [of_made, sub_made hD (by decide)]
    exact made_eq (Int.mul_pos hD (by decide)) hD (by grind)
  have qy : (Frac.made Y D).sub (Frac.of oy) = Frac.made (Y - oy * D) D := by
    rw [of_made, sub_made hD (by decide)]
    exact made_eq (Int.mul_pos hD (by decide)) hD (by grind)
  rw [qx, qy]
  generalize X - ox * D = x
  generalize Y - oy * D = y
  have hDS := Int.mul_pos hD hS
  have t : (((Frac.made x D).mul (Frac.of dx)).add ((Frac.made y D).mul (Frac.of dy))).div (Frac.of (dx * dx + dy * dy)) = Frac.made (x * dx + y * dy) (D * (dx * dx + dy * dy)) := by
    rw [of_made, of_made, of_made, mul_made hD (by decide), mul_made hD (by decide), add_made (Int.mul_pos hD (by decide)) (Int.mul_pos hD (by decide)), div_made (Int.mul_pos (Int.mul_pos hD (by decide)) (Int.mul_pos hD (by decide))) hS (by decide)]
    refine made_eq (Int.mul_pos (Int.mul_pos (Int.mul_pos hD (by decide)) (Int.mul_pos hD (by decide))) hS) hDS ?_
    grind
  rw [t, made_lt_of hDS, Int.zero_mul]
  by_cases c : x * dx + y * dy < 0
  · rw [if_pos c, if_pos (decide_eq_true c)]
    have e1 : ∀ z u : Int, (Frac.made z D).sub ((Frac.of 0).mul (Frac.of u)) = Frac.made z D := fun z u => by
      rw [of_made, of_made, mul_made (by decide) (by decide), sub_made hD (by decide)]
      exact made_eq (Int.mul_pos hD (by decide)) hD (by grind)
    rw [e1, e1, mul_made hD hD, mul_made hD hD, add_made (Int.mul_pos hD hD) (Int.mul_pos hD hD), of_made]
    congr 1
    refine made_eq (Int.mul_pos (Int.mul_pos hD hD) (Int.mul_pos hD hD)) (Int.mul_pos hD hD) ?_
    grind
  · rw [if_neg c, if_neg (by rw [decide_eq_false c]; decide)]
    congr 1
    have hDSD := Int.mul_pos hD (Int.mul_pos hDS (show (0 : Int) < 1 by decide))
    rw [of_made, of_made, mul_made hDS (by decide), mul_made hDS (by decide), sub_made hD (Int.mul_pos hDS (by decide)), sub_made hD (Int.mul_pos hDS (by decide)), mul_made hDSD hDSD, mul_made hDSD hDSD, add_made (Int.mul_pos hDSD hDSD) (Int.mul_pos hDSD hDSD)]
    refine made_eq (Int.mul_pos (Int.mul_pos hDSD hDSD) (Int.mul_pos hDSD hDSD)) (Int.mul_pos (Int.mul_pos hD hD) hS) ?_
    grind
end MN
set_option Elab.async false
namespace MN
open Vbwsah (Frac)
/-! shots in whole numbers -/
def wayOf (ox oy dx dy X Y D : Int) : Option Int :=
  if (X - ox * D) * dx + (Y - oy * D) * dy ≤ 0 then (if (X - ox * D) * (X - ox * D) + (Y - oy * D) * (Y - oy * D) ≤ 25 * D * D then some 0 else none)
  else (if ((X - ox * D) * dy - (Y - oy * D) * dx) * ((X - ox * D) * dy - (Y - oy * D) * dx) ≤ 25 * D * D * (dx * dx + dy * dy) then some ((X - ox * D) * dx + (Y - oy * D) * dy) else none)
theorem wayOf_nonneg {ox oy dx dy X Y D w : Int} (h : wayOf ox oy dx dy X Y D = some w) : 0 ≤ w := by
  unfold wayOf at h
  split at h
  · split at h
    · cases h; omega
    · cases h
  · split at h
    · cases h; omega
    · cases h
theorem lag (x y dx dy : Int) : (x * dy - y * dx) * (x * dy - y * dx) + (x * dx + y * dy) * (x * dx + y * dy) = (x * x + y * y) * (dx * dx + dy * dy) := by grind
theorem way_is {ox oy dx dy X Y D : Int} (hD : 0 < D) (hS : 0 < dx * dx + dy * dy) :
    (if (Vbwsah.nearestTo ox oy dx dy (Frac.made X D) (Frac.made Y D)).2.le (Frac.of Vbwsah.RADIUS2) = true then some (Vbwsah.nearestTo ox oy dx dy (Frac.made X D) (Frac.made Y D)).1 else none) =
      (wayOf ox oy dx dy X Y D).map fun w => Frac.made w (D * (dx * dx + dy * dy)) := by
  rw [nearest_made hD hS]
  unfold wayOf Vbwsah.RADIUS2
  generalize X - ox * D = x
  generalize Y - oy * D = y
  have hl := lag x y dx dy
  generalize hal : x * dx + y * dy = al at *
  generalize has : x * dy - y * dx = as at *
  generalize hS' : dx * dx + dy * dy = S at *
  generalize hq : x * x + y * y = qq at *
  have hDD := Int.mul_pos hD hD
  have hDS := Int.mul_pos hD hS
  have hDDS := Int.mul_pos hDD hS
  have e25 : 25 * D * D = 25 * (D * D) := by rw [Int.mul_assoc]
  have z0 : Frac.made 0 1 = Frac.made 0 (D * S) := made_eq (by decide) hDS (by rw [Int.zero_mul, Int.zero_mul])
  by_cases c : al < 0
  · rw [if_pos c, if_pos (show al ≤ 0 by omega)]
    show (if (Frac.made qq (D * D)).le (Frac.of 25) = true then some (Frac.made 0 1) else none) = _
    rw [made_le_of hDD, e25]
    by_cases d : qq ≤ 25 * (D * D)
    · rw [if_pos (decide_eq_true d), if_pos d, z0]; rfl
    · rw [if_neg (by rw [decide_eq_false d]; decide), if_neg d]; rfl
  · rw [if_neg c]
    show (if (Frac.made (as * as) (D * D * S)).le (Frac.of 25) = true then some (Frac.made al (D * S)) else none) = _
    rw [made_le_of hDDS]
    by_cases c0 : al = 0
    · rw [if_pos (show al ≤ 0 by omega), e25]
      subst c0
      rw [Int.mul_zero, Int.add_zero] at hl
      have key : as * as ≤ 25 * (D * D * S) ↔ qq ≤ 25 * (D * D) := by
        rw [hl, ← Int.mul_assoc]
        constructor
        · intro h; exact Int.le_of_mul_le_mul_right h hS
        · intro h; exact Int.mul_le_mul_of_nonneg_right h (Int.le_of_lt hS)
      by_cases d : qq ≤ 25 * (D * D)
      · rw [if_pos (decide_eq_true (key.mpr d)), if_pos d]; rfl
      · rw [if_neg (by rw [decide_eq_false (fun h => d (key.mp h))]; decide), if_neg d]; rfl
    · rw [if_neg (show ¬ al ≤ 0 by omega)]
      have e : 25 * D * D * S = 25 * (D * D * S) := by rw [e25, Int.mul_assoc]
      rw [e]
      by_cases d : as * as ≤ 25 * (D * D * S)
      · rw [if_pos (decide_eq_true d), if_pos d]; rfl
      · rw [if_neg (by rw [decide_eq_false d]; decide), if_neg d]; rfl
/-! nearest first, of equal ones by number -/
def insW (h : Int × Nat) : List (Int × Nat) → List (Int × Nat)
  | [] => [h]
  | g :: l => if h.1 < g.1 then h :: g :: l else g :: insW h l
def phi (M : Int) (h : Int × Nat) : Nat × Frac := (h.2, Frac.made h.1 M)
theorem ins_phi {M : Int} (hM : 0 < M) (h : Int × Nat) : ∀ l : List (Int × Nat), Vbwsah.insertHit (phi M h) (l.map (phi M)) = (insW h l).map (phi M)
  | [] => rfl
  | g :: l => by
    rw [List.map_cons, Vbwsah.insertHit, insW]
    have e : (phi M h).2.lt (phi M g).2 = decide (h.1 < g.1) := by
      show (Frac.made h.1 M).lt (Frac.made g.1 M) = _
      rw [lt_made hM hM]
      refine decide_eq_decide.mpr ⟨fun z => ?_, fun z => ?_⟩
      · exact Int.lt_of_mul_lt_mul_right z (Int.le_of_lt hM)
      · exact Int.mul_lt_mul_of_pos_right z hM
    rw [e]
    by_cases c : h.1 < g.1
    · rw [if_pos (decide_eq_true c), if_pos c]; rfl
    · rw [if_neg (by rw [decide_eq_false c]; decide), if_neg c, List.map_cons, ins_phi hM h l]
theorem sorted_phi {M : Int} (hM : 0 < M) (l : List (Int × Nat)) : Vbwsah.sortedHits (l.map (phi M)) = (l.foldl (fun s h => insW h s) []).map (phi M) := by
  have go : ∀ (l s : List (Int × Nat)), (l.map (phi M)).foldl (fun s h => Vbwsah.insertHit h s) (s.map (phi M)) = (l.foldl (fun s h => insW h s) s).map (phi M) := by
    intro l
    induction l with
    | nil => intro s; rfl
    | cons h l ih =>
      intro s
      rw [List.map_cons, List.foldl_cons, List.foldl_cons, ins_phi hM, ih]
  exact go l []
def lexLt (a b : Int × Nat) : Prop := a.1 < b.1 ∨ (a.1 = b.1 ∧ a.2 < b.2)
theorem insW_perm (h : Int × Nat) : ∀ l : List (Int × Nat), (insW h l).Perm (h :: l)
  | [] => List.Perm.refl _
  | g :: l => by
    rw [insW]
    split
    · exact List.Perm.refl _
    · exact ((insW_perm h l).cons g).trans (List.Perm.swap h g l)
theorem insW_sorted {h : Int × Nat} : ∀ {l : List (Int × Nat)}, l.Pairwise lexLt → (∀ g ∈ l, g.2 < h.2) → (insW h l).Pairwise lexLt
  | [], _, _ => List.pairwise_singleton _ _
  | g :: l, hs, hb => by
    rw [insW]
    have hs' := List.pairwise_cons.mp hs
    by_cases c : h.1 < g.1
    · rw [if_pos c]
      refine List.pairwise_cons.mpr ⟨fun y hy => ?_, hs⟩
      rcases List.mem_cons.mp hy with e | e
      · rw [e]; exact .inl c
      · rcases hs'.1 y e with z | z
        · exact .inl (by omega)
        · exact .inl (by omega)
    · rw [if_neg c]
      refine List.pairwise_cons.mpr ⟨fun y hy => ?_, insW_sorted hs'.2 fun z hz => hb z (List.mem_cons_of_mem _ hz)⟩
      rcases List.mem_cons.mp ((insW_perm h l).mem_iff.mp hy) with e | e
      · rw [e]
        have := hb g List.mem_cons_self
        by_cases z : g.1 = h.1
        · exact .inr ⟨z, this⟩
        · exact .inl (by omega)
      · exact hs'.1 y e
theorem foldW {l : List (Int × Nat)} : ∀ {s : List (Int × Nat)}, s.Pairwise lexLt → (l.map (·.2)).Pairwise (· < ·) → (∀ g ∈ s, ∀ h ∈ l, g.2 < h.2) → (l.foldl (fun s h => insW h s) s).Pairwise lexLt ∧ (l.foldl (fun s h => insW h s) s).Perm (s ++ l) := by
  induction l with
  | nil => intro s hs _ _; exact ⟨hs, by rw [List.append_nil]; exact List.Perm.refl _⟩
  | cons h l ih =>
    intro s hs hl hb
    rw [List.map_cons, List.pairwise_cons] at hl
    rw [List.foldl_cons]
    have h1 := insW_sorted (h := h) hs fun g hg => hb g hg h List.mem_cons_self
    obtain ⟨a, b⟩ := ih h1 hl.2 fun g hg k hk => by
      rcases List.mem_cons.mp ((insW_perm h s).mem_iff.mp hg) with e | e
      · rw [e]; exact hl.1 k.2 (List.mem_map.mpr ⟨k, hk, rfl⟩)
      · exact hb g e k (List.mem_cons_of_mem _ hk)
    refine ⟨a, b.trans ?_⟩
    refine ((insW_perm h s).append_right l).trans ?_
    exact List.perm_middle.symm
/-- there is just one such list -/
theorem lex_uniq : ∀ {a b : List (Int × Nat)}, a.Pairwise lexLt → b.Pairwise lexLt → a.Perm b → a = b
  | [], b, _, _, h => (List.Perm.eq_nil h.symm).symm
  | p :: a, [], _, _, h => absurd h.length_eq (by simp)
  | p :: a, q :: b, ha, hb, h => by
    have ha' := List.pairwise_cons.mp ha
    have hb' := List.pairwise_cons.mp hb
    have e : p = q := by
      rcases List.mem_cons.mp (h.mem_iff.mp (List.mem_cons_self (a := p) (l := a))) with e | e
      · exact e
      · rcases List.mem_cons.mp (h.mem_iff.mpr (List.mem_cons_self (a := q) (l := b))) with e' | e'
        · exact e'.symm
        · have h1 := ha'.1 q e'
          have h2 := hb'.1 p e
          unfold lexLt at h1 h2
          omega
    subst e
    rw [lex_uniq ha'.2 hb'.2 (List.Perm.cons_inv h)]
end MN
set_option Elab.async false
set_option linter.all false
set_option maxRecDepth 100000
set_option maxHeartbeats 1000000
/-! A set's table laid anew: every hash finds a free slot, and none is lost. -/
namespace MN
open PySem
def orb (m : Nat) : Nat → Nat → List Nat
  | 0, _ => []
  | n + 1, x => x :: orb m n ((x * 5 + 1) % m)
def it (m : Nat) : Nat → Nat → Nat
  | 0, x => x
  | n + 1, x => it m n ((x * 5 + 1) % m)
theorem it_add (m : Nat) : ∀ (a b x : Nat), it m (a + b) x = it m b (it m a x)
  | 0, b, x => by rw [Nat.zero_add]; rfl
  | a + 1, b, x => by
    rw [show a + 1 + b = (a + b) + 1 by omega]
    show it m (a + b) ((x * 5 + 1) % m) = it m b (it m a ((x * 5 + 1) % m))
    exact it_add m a b _
theorem orb_mem (m : Nat) {y : Nat} : ∀ (n x : Nat), y ∈ orb m n x → ∃ t, t < n ∧ it m t x = y
  | 0, x, h => by cases h
  | n + 1, x, h => by
    rcases List.mem_cons.mp h with e | e
    · exact ⟨0, by omega, e.symm⟩
    · obtain ⟨t, ht, q⟩ := orb_mem m n _ e
      exact ⟨t + 1, by omega, q⟩
def marks (l : List Nat) (a : Nat) : Nat := l.foldl (fun a x => a ||| 2 ^ x) a
theorem marks_bit (j : Nat) : ∀ (l : List Nat) (a : Nat), (marks l a).testBit j = true → a.testBit j = true ∨ j ∈ l
  | [], a, h => Or.inl h
  | x :: l, a, h => by
    rcases marks_bit j l (a ||| 2 ^ x) h with q | q
    · rw [Nat.testBit_or, Bool.or_eq_true] at q
      rcases q with q | q
      · exact Or.inl q
      · rw [Nat.testBit_two_pow] at q
        have e : x = j := of_decide_eq_true q
        rw [e]; exact Or.inr List.mem_cons_self
    · exact Or.inr (List.mem_cons_of_mem _ q)
def Full (m : Nat) : Prop := 0 < m ∧ marks (orb m m 0) 0 = 2 ^ m - 1 ∧ it m m 0 = 0
theorem full8 : Full 8 := ⟨by decide, by decide +kernel, by decide +kernel⟩
theorem full16 : Full 16 := ⟨by decide, by decide +kernel, by decide +kernel⟩
theorem full32 : Full 32 := ⟨by decide, by decide +kernel, by decide +kernel⟩
theorem full64 : Full 64 := ⟨by decide, by decide +kernel, by decide +kernel⟩
theorem full128 : Full 128 := ⟨by decide, by decide +kernel, by decide +kernel⟩
theorem full256 : Full 256 := ⟨by decide, by decide +kernel, by decide +kernel⟩
theorem full512 : Full 512 := ⟨by decide, by decide +kernel, by decide +kernel⟩
theorem full1024 : Full 1024 := ⟨by decide, by decide +kernel, by decide +kernel⟩
/-- from any slot every slot is met -/
theorem Full.meets {m : Nat} (f : Full m) {i j : Nat} (hi : i < m) (hj : j < m) : ∃ t, t < m ∧ it m t i = j := by
  obtain ⟨_, h, z⟩ := f
  have go : ∀ y, y < m → ∃ t, t < m ∧ it m t 0 = y := fun y hy => orb_mem m m 0 (by
    have q : (marks (orb m m 0) 0).testBit y = true := by rw [h, Nat.testBit_two_pow_sub_one]; exact decide_eq_true hy
    rcases marks_bit y _ _ q with q | q
    · rw [Nat.zero_testBit] at q; cases q
    · exact q)
  obtain ⟨s, hs, es⟩ := go i hi
  obtain ⟨t, ht, et⟩ := go j hj
  by_cases c : s ≤ t
  · refine ⟨t - s, by omega, ?_⟩
    rw [← es, ← it_add, show s + (t - s) = t by omega]
    exact et
  · refine ⟨m - s + t, by omega, ?_⟩
    rw [it_add]
    have e0 : it m (m - s) i = 0 := by
      rw [← es, ← it_add, show s + (m - s) = m by omega]
      exact z
    rw [e0]; exact et
/-! the search for a free slot -/
def itp (mask : Nat) : Nat → Nat × Nat → Nat × Nat
  | 0, p => p
  | n + 1, p => itp mask n (SetTable.leap mask p.1 p.2)
theorem itp_add (mask : Nat) : ∀ (a b : Nat) (p : Nat × Nat), itp mask (a + b) p = itp mask b (itp mask a p)
  | 0, b, p => by rw [Nat.zero_add]; rfl
  | a + 1, b, p => by
    rw [show a + 1 + b = (a + b) + 1 by omega]
    exact itp_add mask a b _
theorem itp_two (mask : Nat) : ∀ (n : Nat) (p : Nat × Nat), (itp mask n p).2 = p.2 / 32 ^ n
  | 0, p => by simp [itp]
  | n + 1, p => by
    show (itp mask n (SetTable.leap mask p.1 p.2)).2 = _
    rw [itp_two mask n]
    show p.2 / 32 / 32 ^ n = p.2 / 32 ^ (n + 1)
    rw [Nat.div_div_eq_div_mul, Nat.pow_succ, Nat.mul_comm]
theorem itp_zero (mask : Nat) : ∀ (n i : Nat), itp mask n (i, 0) = (it (mask + 1) n i, 0)
  | 0, i => rfl
  | n + 1, i => by
    show itp mask n (SetTable.leap mask i 0) = _
    have e : SetTable.leap mask i 0 = ((i * 5 + 1) % (mask + 1), 0) := rfl
    rw [e, itp_zero mask n]
    rfl
theorem itp_lt (mask : Nat) : ∀ (n : Nat) (p : Nat × Nat), p.1 < mask + 1 → (itp mask n p).1 < mask + 1
  | 0, p, h => h
  | n + 1, p, h => itp_lt mask n _ (Nat.mod_lt _ (Nat.succ_pos _))
theorem free_some (mask : Nat) (owner : Array (Option Nat)) (hs : owner.size = mask + 1) : ∀ (fuel i perturb : Nat), i < mask + 1 → (∃ t : Nat, t < fuel ∧ owner[(itp mask t (i, perturb)).1]? = some none) →
    ∃ j : Nat, SetTable.layClean.free mask owner fuel i perturb = some j ∧ owner[j]? = some none
  | 0, i, p, _, ⟨t, ht, _⟩ => by omega
  | fuel + 1, i, p, hi, ⟨t, ht, h⟩ => by
    rw [SetTable.layClean.free]
    cases hf : (List.range (SetTable.runEnd mask i + 1 - i)).find? (fun k => (owner.getD (i + k) (some 0)).isNone) with
    | some k =>
      refine ⟨i + k, rfl, ?_⟩
      have q := List.find?_some hf
      have q' : (owner.getD (i + k) (some 0)).isNone = true := q
      rw [Array.getD_eq_getD_getElem?] at q'
      cases e : owner[i + k]? with
      | none => rw [e] at q'; cases q'
      | some o =>
        rw [e] at q'
        cases o with
        | none => rfl
        | some z => cases q'
    | none =>
      show ∃ j, SetTable.layClean.free mask owner fuel (SetTable.leap mask i p).1 (SetTable.leap mask i p).2 = some j ∧ _
      refine free_some mask owner hs fuel _ _ (Nat.mod_lt _ (Nat.succ_pos _)) ?_
      cases t with
      | zero =>
        exfalso
        have h0 : owner[i]? = some none := h
        have hm : 0 ∈ List.range (SetTable.runEnd mask i + 1 - i) := by
          rw [List.mem_range]
          unfold SetTable.runEnd
          split <;> omega
        have := List.find?_eq_none.mp hf 0 hm
        rw [Nat.add_zero, Array.getD_eq_getD_getElem?, h0] at this
        exact this rfl
      | succ t => exact ⟨t, by omega, h⟩
theorem bits_lt (h : Int) : SetTable.bits h < 2 ^ 64 := by
  unfold SetTable.bits
  have h1 := Int.emod_nonneg h (show (2 ^ 64 : Int) ≠ 0 by decide)
  have h2 := Int.emod_lt_of_pos h (show (0 : Int) < 2 ^ 64 by decide)
  omega
/-- a slot is free: it is met -/
theorem free_meets {mask : Nat} (f : Full (mask + 1)) (owner : Array (Option Nat)) (hs : owner.size = mask + 1) {h : Int} (hn : ∃ j : Nat, owner[j]? = some none) :
    ∃ j : Nat, SetTable.layClean.free mask owner (SetTable.turns mask) (SetTable.bits h % (mask + 1)) (SetTable.bits h) = some j ∧ owner[j]? = some none := by
  obtain ⟨j, hj⟩ := hn
  have hjl : j < mask + 1 := by
    rw [← hs]
    exact (Array.getElem?_eq_some_iff.mp hj).1
  have hi : SetTable.bits h % (mask + 1) < mask + 1 := Nat.mod_lt _ (Nat.succ_pos _)
  refine free_some mask owner hs _ _ _ hi ?_
  have hl := itp_lt mask 13 (SetTable.bits h % (mask + 1), SetTable.bits h) hi
  have hz : (itp mask 13 (SetTable.bits h % (mask + 1), SetTable.bits h)).2 = 0 := by
    rw [itp_two]
    exact Nat.div_eq_of_lt (Nat.lt_of_lt_of_le (bits_lt h) (by decide))
  obtain ⟨t, ht, e⟩ := f.meets hl hjl
  refine ⟨13 + t, by unfold SetTable.turns; omega, ?_⟩
  rw [itp_add]
  generalize itp mask 13 (SetTable.bits h % (mask + 1), SetTable.bits h) = q at hl hz e
  obtain ⟨q1, q2⟩ := q
  have hz' : q2 = 0 := hz
  subst hz'
  rw [itp_zero]
  show owner[it (mask + 1) t q1]? = some none
  have e' : it (mask + 1) t q1 = j := e
  rw [e']; exact hj
/-! all are laid -/
theorem set_perm : ∀ (l : List (Option Nat)) (j k : Nat), l[j]? = some none → ((l.set j (some k)).filterMap id).Perm (k :: l.filterMap id)
  | [], j, k, h => by simp at h
  | o :: l, 0, k, h => by
    have e : o = none := by simpa using h
    subst e
    simp
  | o :: l, j + 1, k, h => by
    have ih := set_perm l j k (by simpa using h)
    rw [List.set_cons_succ]
    cases o with
    | none => simpa using ih
    | some z =>
      simp only [List.filterMap_cons, id_eq]
      exact (List.Perm.cons z ih).trans (List.Perm.swap k z _)
theorem none_free : ∀ (l : List (Option Nat)), (l.filterMap id).length < l.length → ∃ j : Nat, l[j]? = some none
  | [], h => by simp at h
  | none :: l, _ => ⟨0, rfl⟩
  | some z :: l, h => by
    obtain ⟨j, e⟩ := none_free l (by simpa using h)
    exact ⟨j + 1, by simpa using e⟩
theorem lay_all {mask : Nat} (f : Full (mask + 1)) : ∀ (hs : List Int) (owner : Array (Option Nat)) (k : Nat), owner.size = mask + 1 → (owner.toList.filterMap id).Perm (List.range k) → k + hs.length ≤ mask →
    ∃ owner' : Array (Option Nat), hs.foldl (fun acc h => acc >>= fun (p : Array (Option Nat) × Nat) => (SetTable.layClean.free mask p.1 (SetTable.turns mask) (SetTable.bits h % (mask + 1)) (SetTable.bits h)) >>= fun j => pure (p.1.setIfInBounds j (some p.2), p.2 + 1)) (some (owner, k)) = some (owner', k + hs.length) ∧
      owner'.size = mask + 1 ∧ (owner'.toList.filterMap id).Perm (List.range (k + hs.length))
  | [], owner, k, hz, hp, _ => ⟨owner, rfl, hz, hp⟩
  | h :: hs, owner, k, hz, hp, hl => by
    have hlen : (owner.toList.filterMap id).length = k := by rw [hp.length_eq, List.length_range]
    rw [List.length_cons] at hl
    obtain ⟨j0, hj0⟩ := none_free owner.toList (by rw [hlen, Array.length_toList, hz]; omega)
    obtain ⟨j, ej, hj⟩ := free_meets f owner hz (h := h) ⟨j0, by rw [← Array.getElem?_toList]; exact hj0⟩
    rw [List.foldl_cons]
    have e1 : (some (owner, k) >>= fun (p : Array (Option Nat) × Nat) => (SetTable.layClean.free mask p.1 (SetTable.turns mask) (SetTable.bits h % (mask + 1)) (SetTable.bits h)) >>= fun j => pure (p.1.setIfInBounds j (some p.2), p.2 + 1)) = some (owner.setIfInBounds j (some k), k + 1) := by
      show ((SetTable.layClean.free mask owner (SetTable.turns mask) (SetTable.bits h % (mask + 1)) (SetTable.bits h)) >>= fun j => pure (owner.setIfInBounds j (some k), k + 1)) = _
      rw [ej]; rfl
    rw [e1]
    have hp' : ((owner.setIfInBounds j (some k)).toList.filterMap id).Perm (List.range (k + 1)) := by
      rw [Array.toList_setIfInBounds]
      refine (set_perm owner.toList j k (by rw [Array.getElem?_toList]; exact hj)).trans ?_
      rw [List.range_succ]
      exact (List.Perm.cons k hp).trans (List.perm_append_singleton k _).symm
    obtain ⟨o', e2, z2, p2⟩ := lay_all f hs (owner.setIfInBounds j (some k)) (k + 1) (by rw [Array.size_setIfInBounds]; exact hz) hp' (by omega)
    refine ⟨o', ?_, z2, ?_⟩
    · rw [e2, List.length_cons, show k + 1 + hs.length = k + (hs.length + 1) by omega]
    · rw [List.length_cons, show k + (hs.length + 1) = k + 1 + hs.length by omega]
      exact p2
theorem layClean_ok {mask : Nat} (f : Full (mask + 1)) (hashes : Array Int) (hn : hashes.size ≤ mask) : ∃ owner : Array (Option Nat), SetTable.layClean mask hashes = some owner ∧ owner.size = mask + 1 ∧ (owner.toList.filterMap id).Perm (List.range hashes.size) := by
  have h0 : ((Array.replicate (mask + 1) (none : Option Nat)).toList.filterMap id).Perm (List.range 0) := by
    rw [Array.toList_replicate, List.range_zero]
    have : ∀ n, (List.replicate n (none : Option Nat)).filterMap id = [] := fun n => by
      induction n with
      | zero => rfl
      | succ n ih => rw [List.replicate_succ]; simpa using ih
    rw [this]
  obtain ⟨o', e, z, p⟩ := lay_all f hashes.toList (Array.replicate (mask + 1) none) 0 (by simp) h0 (by rw [Array.length_toList]; omega)
  rw [Nat.zero_add, Array.length_toList] at e p
  refine ⟨o', ?_, z, p⟩
  unfold SetTable.layClean
  rw [← Array.foldl_toList]
  exact congrArg (Option.map fun x : Array (Option Nat) × Nat => x.1) e
theorem live_two (owner : Array (Option Nat)) {m : Nat} (hz : owner.size = m) : ((List.range m).filterMap fun j => (owner.getD j none).map (j, ·)).map (·.2) = owner.toList.filterMap id := by
  subst hz
  rw [List.map_filterMap]
  have e1 : (fun j => Option.map (fun x : Nat × Nat => x.2) ((owner.getD j none).map (j, ·))) = fun j => owner.getD j none := by
    funext j
    cases owner.getD j none <;> rfl
  rw [e1]
  have e2 : owner.toList = (List.range owner.size).map fun j => owner.getD j none := by
    apply List.ext_getElem
    · simp
    · intro i h1 h2
      have hi : i < owner.size := by simpa using h1
      simp [Array.getD, hi]
  conv => rhs; rw [e2]
  rw [List.filterMap_map]
  rfl
/-- **a table laid anew holds all** -/
theorem laid_ok {mask finger moves : Nat} {led plain : Bool} (f : Full (mask + 1)) (hashes : Array Int) (hn : hashes.size ≤ mask) :
    ∃ t order, SetTable.laid mask finger moves led plain hashes = some (t, order) ∧ order.toList.Perm (List.range hashes.size) ∧ t.place.size = hashes.size ∧ L2.Ris t.place.toList ∧ t.led = led ∧ t.plain = plain ∧ t.mask = mask ∧ t.dummies = #[] := by
  obtain ⟨owner, e, z, p⟩ := layClean_ok f hashes hn
  unfold SetTable.laid
  rw [e]
  have e2 := live_two owner z
  have hr := (L2.ris_live (fun j => owner.getD j none) (List.range (mask + 1)) (by unfold L2.Ris; exact List.pairwise_lt_range)).1
  generalize hlv : ((List.range (mask + 1)).filterMap fun j => (owner.getD j none).map (j, ·)) = live at e2 hr
  refine ⟨_, _, rfl, ?_, ?_, ?_, rfl, rfl, rfl, rfl⟩
  · rw [hlv]
    show ((live.map (·.2)).toArray.toList).Perm _
    rw [List.toList_toArray, e2]
    exact p
  · rw [hlv]
    show (live.map (·.1)).toArray.size = hashes.size
    have h1 : (live.map (·.2)).length = hashes.size := by rw [e2, p.length_eq, List.length_range]
    simpa using h1
  · rw [hlv]
    show L2.Ris (live.map (·.1)).toArray.toList
    rw [List.toList_toArray]
    exact hr
theorem sizeAbove_full {n : Nat} (h : n < 1024) : Full (SetTable.sizeAbove n - 1 + 1) ∧ n ≤ SetTable.sizeAbove n - 1 ∧ SetTable.sizeAbove n ≤ 1024 := by
  unfold SetTable.sizeAbove
  simp only [SetTable.sizeAbove.go]
  by_cases c1 : 8 ≤ n
  · rw [if_pos c1]
    by_cases c2 : 8 * 2 ≤ n
    · rw [if_pos c2]
      by_cases c3 : 8 * 2 * 2 ≤ n
      · rw [if_pos c3]
        by_cases c4 : 8 * 2 * 2 * 2 ≤ n
        · rw [if_pos c4]
          by_cases c5 : 8 * 2 * 2 * 2 * 2 ≤ n
          · rw [if_pos c5]
            by_cases c6 : 8 * 2 * 2 * 2 * 2 * 2 ≤ n
            · rw [if_pos c6]
              by_cases c7 : 8 * 2 * 2 * 2 * 2 * 2 * 2 ≤ n
              · rw [if_pos c7, if_neg (by omega)]
                exact ⟨full1024, by omega, by omega⟩
              · rw [if_neg c7]; exact ⟨full512, by omega, by omega⟩
            · rw [if_neg c6]; exact ⟨full256, by omega, by omega⟩
          · rw [if_neg c5]; exact ⟨full128, by omega, by omega⟩
        · rw [if_neg c4]; exact ⟨full64, by omega, by omega⟩
      · rw [if_neg c3]; exact ⟨full32, by omega, by omega⟩
    · rw [if_neg c2]; exact ⟨full16, by omega, by omega⟩
  · rw [if_neg c1]; exact ⟨full8, by omega, by omega⟩
end MN
set_option Elab.async false
set_option linter.all false
set_option maxRecDepth 100000
set_option maxHeartbeats 1000000
/-! Sets of ints: room made, one merged into another. -/
namespace MN
open PySem PySem.Spec PyProof.Rows L2
section
variable {P : Program} {w : World} {A : Around} {E : Value → Shared → Prop} {s : Shared} {a b : Addr} {S S2 : Int → Bool} {n n2 : Nat}
theorem order_perm {es : Array (Int × Value)} {order : Array Nat} (hp : order.toList.Perm (List.range es.size)) : (order.filterMap (es[·]?)).toList.Perm es.toList := by
  rw [Array.toList_filterMap]
  refine (hp.filterMap _).trans ?_
  rw [filterMap_getElem?_range]
theorem wp_reord {es : Array (Int × Value)} {ld : Option (SetTable × Array Nat)} {t : SetTable} {order : Array Nat} {Q : Array (Int × Value) × SetTable → Shared → Prop} (e : ld = some (t, order)) (hp : order.toList.Perm (List.range es.size))
    (h : ∀ es' : Array (Int × Value), es'.toList.Perm es.toList → Q (es', t) s) :
    wpAny (model P w) A (do
      let some (t, order) := ld | unsupported "internal:set-table-without-room"
      let es' := order.filterMap (es[·]?)
      if es'.size != es.size then unsupported "internal:set-table-lost-an-element"
      pure (es', t)) Q E s := by
  subst e
  have pm := order_perm hp
  have hz : (order.filterMap (es[·]?)).size = es.size := by rw [← Array.length_toList, pm.length_eq, Array.length_toList]
  have hb : ((order.filterMap (es[·]?)).size != es.size) = false := by rw [hz]; simp
  dsimp only
  rw [hb]
  simp only [Bool.false_eq_true, if_false]
  first | exact wpAny_pure (h _ pm) | exact wpAny_bind (wpAny_pure (wpAny_pure (h _ pm)))
/-- the parts of a set of ints -/
structure SetP (w : World) (h : Heap) (a : Addr) (es : Array (Int × Value)) (ep : Nat) (t : SetTable) (S : Int → Bool) (n : Nat) (o : Obj) : Prop where
  ho : h.get? a = some o
  ex : o.ExactSet
  hd : o.data = .set es ep t
  good : ∀ e ∈ es.toList, GoodE e
  nd : (es.toList.map keyOf).Nodup
  mem : ∀ k, S k = true ↔ k ∈ es.toList.map keyOf
  sz : es.size < scanBound
  fit : t.fits es.size = true
  hn : es.size = n
  ris : Ris t.place.toList
  led : w.params.followText "set-order" = true ∨ t.led = true
theorem SetP.r {h : Heap} {es : Array (Int × Value)} {ep : Nat} {t : SetTable} {o : Obj} (p : SetP w h a es ep t S n o) : SetR w h a S n := ⟨o, es, ep, t, p.ho, p.ex, p.hd, p.good, p.nd, p.mem, p.sz, p.fit, p.hn, p.ris, p.led⟩
theorem SetP.of {h : Heap} (R : SetR w h a S n) : ∃ es ep t o, SetP w h a es ep t S n o := by
  obtain ⟨o, es, ep, t, ho, hex, hd, g, nd, hm, hb, hf, hn, hr, hl⟩ := R
  exact ⟨es, ep, t, o, ho, hex, hd, g, nd, hm, hb, hf, hn, hr, hl⟩
theorem SetP.at {h h' : Heap} {es : Array (Int × Value)} {ep : Nat} {t : SetTable} {o : Obj} (p : SetP w h a es ep t S n o) (k : ∀ o, h.get? a = some o → h'.get? a = some o) : SetP w h' a es ep t S n o := { p with ho := k o p.ho }
theorem fits_place {t : SetTable} {n : Nat} (h : t.fits n = true) : t.place.size = n ∧ t.fill ≤ t.mask := by
  simp only [SetTable.fits, Bool.and_eq_true, beq_iff_eq, decide_eq_true_eq] at h
  exact h
/-- a table with the same elements in another order is stored -/
theorem SetP.stored {h : Heap} {es es' : Array (Int × Value)} {ep : Nat} {t t' : SetTable} {o : Obj} (p : SetP w h a es ep t S n o) (pm : es'.toList.Perm es.toList) (hf : t'.fits es'.size = true) (hr : Ris t'.place.toList) (hl : t'.led = t.led) :
    SetP w (h.update a (Obj.putSet es' t')) a es' (ep + 1) t' S n { o with data := .set es' (ep + 1) t' } := by
  have hz : es'.size = es.size := by rw [← Array.length_toList, pm.length_eq, Array.length_toList]
  exact ⟨store_at p.ho p.hd, p.ex, rfl, fun e he => p.good e (pm.mem_iff.mp he), (pm.map keyOf).nodup_iff.mpr p.nd, fun k => (p.mem k).trans (pm.map keyOf).mem_iff.symm, by rw [hz]; exact p.sz, hf, by rw [hz]; exact p.hn, hr, by rw [hl]; exact p.led⟩
theorem room_lt {x y : Nat} (h : x < 1024) : ¬ SetTable.sizeAbove x > sizeLine := by
  have h1 := (sizeAbove_full h).2.2
  have h2 : (1024 : Nat) ≤ sizeLine := by decide
  omega
/-- the table is laid anew -/
theorem wp_relay {es : Array (Int × Value)} {ep : Nat} {t : SetTable} {o : Obj} {wanted : Nat} {Q : Unit → Shared → Prop} (p : SetP w s.heap a es ep t S n o) (hw : wanted < 1024) (hn : n ≤ wanted)
    (hQ : ∀ h' es' ep' t' o', Heap.SameBut a s.heap h' → SetP w h' a es' ep' t' S n o' → t'.mask = SetTable.sizeAbove wanted - 1 → t'.dummies = #[] → Q () { s with heap := h' }) : wpAny (model P w) A (setRelay a wanted) Q E s := by
  unfold setRelay
  refine wpAny_bind (wpAny_setState_of p.ho p.hd p.fit ?_)
  dsimp only
  obtain ⟨fu, hm, _⟩ := sizeAbove_full hw
  obtain ⟨t', order, el, po, z1, r1, l1, _, m1, d1⟩ := laid_ok (finger := t.finger) (moves := t.movedTo (SetTable.sizeAbove wanted - 1)) (led := t.led) (plain := t.plain) fu (es.map (·.1)) (by rw [Array.size_map, p.hn]; omega)
  rw [Array.size_map] at po z1
  rw [if_neg (room_lt (y := 0) hw)]
  have go : ∀ {Q' : Array (Int × Value) × SetTable → Shared → Prop}, (∀ es' : Array (Int × Value), es'.toList.Perm es.toList → Q' (es', t') s) → wpAny (model P w) A (do
      let some (t, order) := t.relaid (es.map (·.1)) wanted | unsupported "internal:set-table-without-room"
      let es' := order.filterMap (es[·]?)
      if es'.size != es.size then unsupported "internal:set-table-lost-an-element"
      pure (es', t)) Q' E s := fun h => wp_reord (show t.relaid (es.map (·.1)) wanted = some (t', order) from el) po h
  have fin : ∀ es' : Array (Int × Value), es'.toList.Perm es.toList → wpAny (model P w) A (storeSet a es' t') Q E s := fun es' pm => by
    have hz : es'.size = es.size := by rw [← Array.length_toList, pm.length_eq, Array.length_toList]
    have hf' : t'.fits es'.size = true := by
      simp only [SetTable.fits, Bool.and_eq_true, beq_iff_eq, decide_eq_true_eq]
      refine ⟨by rw [z1, hz], ?_⟩
      unfold SetTable.fill
      rw [d1, z1, m1, p.hn]
      show n + 0 ≤ _
      omega
    refine wpAny_storeSet_of p.ho p.hd ?_ (fits_of_scanBound (by rw [hz]; exact p.sz))
    exact hQ _ es' (ep + 1) t' _ (Heap.SameBut.update s.heap a _) (p.stored pm hf' r1 l1) m1 d1
  first
  | exact wpAny_bind (go fun es' pm => fin es' pm)
  | exact wpAny_bind (wpAny_pure (wpAny_bind (go fun es' pm => fin es' pm)))
/-- room is made -/
theorem wp_room {es : Array (Int × Value)} {ep : Nat} {t : SetTable} {o : Obj} {more : Nat} {Q : Unit → Shared → Prop} (p : SetP w s.heap a es ep t S n o) (hw : (n + more) * 2 < 1024)
    (hQ0 : t.roomFor more = none → Q () s)
    (hQ : ∀ h' es' ep' t' o', t.roomFor more = some ((n + more) * 2) → Heap.SameBut a s.heap h' → SetP w h' a es' ep' t' S n o' → t'.mask = SetTable.sizeAbove ((n + more) * 2) - 1 → t'.dummies = #[] → Q () { s with heap := h' }) : wpAny (model P w) A (setRoomFor a more) Q E s := by
  unfold setRoomFor
  refine wpAny_bind (wpAny_setState_of p.ho p.hd p.fit ?_)
  dsimp only
  have hpl : t.place.size = n := by rw [(fits_place p.fit).1, p.hn]
  cases e : t.roomFor more with
  | none => exact wpAny_pure (hQ0 e)
  | some wanted =>
    have hw' : wanted = (n + more) * 2 := by
      unfold SetTable.roomFor at e
      split at e
      · have := Option.some.inj e
        rw [hpl] at this
        exact this.symm
      · cases e
    subst hw'
    exact wp_relay p hw (by omega) fun h' es' ep' t' o' sb q m d => hQ h' es' ep' t' o' e sb q m d
end
end MN
set_option Elab.async false
set_option linter.all false
set_option maxRecDepth 100000
set_option maxHeartbeats 1000000
namespace MN
open PySem PySem.Spec PyProof.Rows L2
section
variable {P : Program} {w : World} {A : Around} {E : Value → Shared → Prop} {s : Shared} {a b : Addr} {S S2 : Int → Bool} {n n2 : Nat}
/-- no element's __eq__ is seen -/
theorem wp_quiet {Q : Bool → Shared → Prop} (hQ : Q true s) (l : List Addr) (hl : ∀ c ∈ l, ∃ (es : Array (Int × Value)) (ep : Nat) (t : SetTable) (S : Int → Bool) (n : Nat) (o : Obj), SetP w s.heap c es ep t S n o) : wpAny (model P w) A (setsQuiet l) Q E s := by
  unfold setsQuiet
  refine wpAny_bind (wpAny_forIn_list _ (fun rest b s' => b = (none, ()) ∧ s' = s ∧ ∀ c ∈ rest, c ∈ l) _ ?_ ?_ l _ ⟨rfl, rfl, fun c h => h⟩)
  · rintro c rest b s' ⟨rfl, rfl, hr⟩
    obtain ⟨es, ep, t, S, n, o, p⟩ := hl c (hr c List.mem_cons_self)
    unfold setEntries
    refine wpAny_bind (wpAny_bind (wpAny_setState_of p.ho p.hd p.fit (wpAny_pure ?_)))
    refine wpAny_bind (PySem.MeetsSeq2.wpAny_forIn_array _ (fun rest b s'' => b = (none, ()) ∧ s'' = s' ∧ ∀ e ∈ rest, e ∈ es.toList) _ ?_ ?_ es _ ⟨rfl, rfl, fun e h => h⟩)
    · rintro ⟨h, x⟩ rest2 b s'' ⟨rfl, rfl, hr2⟩
      obtain ⟨k, tk, e1, _⟩ := p.good _ (hr2 _ List.mem_cons_self)
      have e1' : x = Value.int k tk := e1
      subst e1'
      exact wpAny_pure ⟨rfl, rfl, fun e h => hr2 e (List.mem_cons_of_mem _ h)⟩
    · rintro b s'' ⟨rfl, rfl, _⟩
      exact wpAny_pure ⟨rfl, rfl, fun c h => hr c (List.mem_cons_of_mem _ h)⟩
  · rintro b s' ⟨rfl, rfl, _⟩
    exact wpAny_pure hQ
/-- a set's elements in some order -/
theorem wp_walk {es : Array (Int × Value)} {ep : Nat} {t : SetTable} {o : Obj} {Q : Array (Int × Value) → Shared → Prop} (p : SetP w s.heap a es ep t S n o)
    (hc : (w.params.followText "set-order" || t.led && t.plain || decide (es.size ≤ 1)) = true) (hQ : ∀ out : Array (Int × Value), out.toList.Perm es.toList → Q out s) : wpAny (model P w) A (setWalk a) Q E s := by
  unfold setWalk
  refine wpAny_bind (wpAny_setState_of p.ho p.hd p.fit ?_)
  dsimp only
  refine wpAny_bind (wpAny_byText ?_)
  cases hb : w.params.followText "set-order" with
  | true =>
    simp only [if_true]
    refine wpAny_bind (wpAny_askSetting ?_)
    exact wpAny_pure (hQ _ (pick_perm _ _))
  | false =>
    rw [hb] at hc
    simp only [Bool.false_eq_true, if_false]
    have hd : (!t.plain && decide (es.size > 1)) = false := by
      simp only [Bool.false_or, Bool.or_eq_true, Bool.and_eq_true, decide_eq_true_eq] at hc
      rcases hc with h | h
      · rw [h.2]; rfl
      · have : ¬ es.size > 1 := by omega
        simp [this]
    have hm : (!t.led && decide (es.size > 1)) = false := by
      simp only [Bool.false_or, Bool.or_eq_true, Bool.and_eq_true, decide_eq_true_eq] at hc
      rcases hc with h | h
      · rw [h.1]; rfl
      · have : ¬ es.size > 1 := by omega
        simp [this]
    show wpAny _ _ (if (!t.plain && decide (es.size > 1)) = true then _ else _) _ _ _
    rw [hd]
    simp only [Bool.false_eq_true, if_false]
    refine wpAny_bind ?_
    show wpAny _ _ (if (!t.led && decide (es.size > 1)) = true then _ else _) _ _ _
    rw [hm]
    simp only [Bool.false_eq_true, if_false]
    exact wpAny_pure (wpAny_pure (hQ es (List.Perm.refl _)))
/-- .. which nobody sees, to fill another with -/
theorem wp_unseen {es : Array (Int × Value)} {ep : Nat} {t : SetTable} {o : Obj} {es2 : Array (Int × Value)} {ep2 : Nat} {t2 : SetTable} {o2 : Obj} {Q : Array (Int × Value) → Shared → Prop} (ne : a ≠ b) (p : SetP w s.heap a es ep t S n o) (q : SetP w s.heap b es2 ep2 t2 S2 n2 o2)
    (hQ : ∀ (out : Array (Int × Value)) (h' : Heap), out.toList.Perm es2.toList → Heap.SameBut a s.heap h' → SetR w h' a S n → Q out { s with heap := h' }) : wpAny (model P w) A (setWalkUnseen b [a] (some a)) Q E s := by
  unfold setWalkUnseen
  refine wpAny_bind (wpAny_setState_of q.ho q.hd q.fit ?_)
  dsimp only
  refine wpAny_bind (wpAny_byText ?_)
  by_cases hc : (w.params.followText "set-order" || t2.led && t2.plain || decide (es2.size ≤ 1)) = true
  · rw [if_pos hc]
    exact wp_walk q hc fun out pm => hQ out s.heap pm (Heap.SameBut.refl a s.heap) p.r
  · rw [if_neg hc]
    refine wpAny_bind (wp_quiet ?_ [b, a] fun c hm => ?_)
    · simp only [Bool.not_true, Bool.false_eq_true, if_false]
      refine wpAny_bind (wpAny_rule ?_)
      refine wpAny_bind (wpAny_setState_of p.ho p.hd p.fit ?_)
      dsimp only
      have hled2 : t2.led = true := by
        rcases q.led with h | h
        · rw [h] at hc; simp at hc
        · exact h
      split
      · refine wpAny_bind (wpAny_storeSet_of p.ho p.hd ?_ (fits_of_scanBound p.sz))
        refine wpAny_pure (hQ es2 _ (List.Perm.refl _) (Heap.SameBut.update s.heap a _) (p.stored (t' := { t with led := t.led && t2.led, plain := t.plain && t2.plain }) (List.Perm.refl _) p.fit p.ris ?_).r)
        show (t.led && t2.led) = t.led
        rw [hled2, Bool.and_true]
      · exact wpAny_pure (hQ es2 s.heap (List.Perm.refl _) (Heap.SameBut.refl a s.heap) p.r)
    · rcases List.mem_cons.mp hm with e | e
      · rw [e]; exact ⟨_, _, _, _, _, _, q⟩
      · rw [List.mem_singleton.mp e]; exact ⟨_, _, _, _, _, _, p⟩
/-- elements put in one by one -/
theorem wp_fill {es2 : Array (Int × Value)} {ep2 : Nat} {t2 : SetTable} {o2 : Obj} {each : Sem Unit} {msg : String} {Q : PUnit → Shared → Prop} (ne : a ≠ b) (R : SetR w s.heap a S n) (q : SetP w s.heap b es2 ep2 t2 S2 n2 o2) (hz : n + n2 < 2000)
    (he : ∀ (s' : Shared) (Q' : Unit → Shared → Prop), s'.heap.get? b = some o2 → Q' () s' → wpAny (model P w) A each Q' E s')
    (out : Array (Int × Value)) (pm : out.toList.Perm es2.toList)
    (hQ : ∀ (h' : Heap) (S' : Int → Bool) (n' : Nat), Heap.SameBut a s.heap h' → (∀ k, S' k = (S k || S2 k)) → SetR w h' a S' n' → Q PUnit.unit { s with heap := h' }) :
    wpAny (model P w) A (forIn out PUnit.unit fun x __s =>
      match x with
      | (h, x) => do
        let _ ← holding [x] (setAddHashed a x h)
        each
        let __do_lift ← setState b
        if (__do_lift.snd.fst != ep2) = true then do
            unsupported msg
            pure (ForInStep.yield PUnit.unit)
          else pure (ForInStep.yield PUnit.unit)) Q E s := by
  refine PySem.MeetsSeq2.wpAny_forIn_array _ (fun rest c s' => ∃ (h' : Heap) (S' : Int → Bool) (n' : Nat) (done : List (Int × Value)), s' = { s with heap := h' } ∧ Heap.SameBut a s.heap h' ∧ out.toList = done ++ rest ∧ (∀ k, S' k = (S k || decide (k ∈ done.map keyOf))) ∧ SetR w h' a S' n' ∧ n' ≤ n + done.length) _ ?_ ?_ out _ ⟨s.heap, S, n, [], rfl, Heap.SameBut.refl a s.heap, rfl, fun k => by simp, R, Nat.le_refl _⟩
  · rintro ⟨h, x⟩ rest c s' ⟨h', S', n', done, rfl, sb, ho, hS, R', hn'⟩
    have hmem : (h, x) ∈ es2.toList := pm.mem_iff.mp (by rw [ho]; exact List.mem_append_right _ List.mem_cons_self)
    obtain ⟨k, tk, e1, e2⟩ := q.good _ hmem
    have e1' : x = Value.int k tk := e1
    have e2' : h = hashInt k := e2
    subst e1' e2'
    have hlen : done.length < n2 := by
      have h1 := congrArg List.length ho
      rw [pm.length_eq, Array.length_toList, q.hn, List.length_append, List.length_cons] at h1
      omega
    refine wpAny_bind (wpAny_holding (setR_add_hashed (P := P) (k := k) (tk := tk) R' (by unfold scanBound; omega) fun h2 sb2 R2 => ?_))
    have hb2 : h2.get? b = some o2 := by
      have hb1 : h'.get? b = some o2 := by rw [sb.2 b (Ne.symm ne)]; exact q.ho
      rw [sb2.2 b (Ne.symm ne)]; exact hb1
    refine wpAny_bind (he _ _ hb2 ?_)
    refine wpAny_bind (wpAny_setState_of (s := { s with heap := h2 }) hb2 q.hd q.fit ?_)
    have hne : (ep2 != ep2) = false := by simp
    dsimp only
    rw [hne]
    simp only [Bool.false_eq_true, if_false]
    refine wpAny_pure ⟨h2, _, _, done ++ [(hashInt k, Value.int k tk)], rfl, sb.trans sb2, by rw [ho, List.append_assoc]; rfl, fun j => ?_, R2, ?_⟩
    · rw [hS j, List.map_append, Bool.or_assoc]
      congr 1
      have ek : keyOf (hashInt k, Value.int k tk) = k := rfl
      rw [List.map_cons, List.map_nil, ek]
      by_cases c1 : j ∈ done.map keyOf
      · rw [decide_eq_true c1, decide_eq_true (List.mem_append_left _ c1)]; rfl
      · by_cases c2 : j = k
        · subst c2; simp
        · rw [decide_eq_false c1, decide_eq_false c2, decide_eq_false (fun z => by
            rcases List.mem_append.mp z with z | z
            · exact c1 z
            · exact c2 (List.mem_singleton.mp z))]
          rfl
    · rw [List.length_append]
      show (if S' k = true then n' else n' + 1) ≤ n + (done.length + 1)
      split <;> omega
  · rintro c s' ⟨h', S', n', done, rfl, sb, ho, hS, R', hn'⟩
    rw [List.append_nil] at ho
    refine hQ h' S' n' sb (fun k => ?_) R'
    rw [hS k]
    congr 1
    have hm := q.mem k
    have pk := (pm.map keyOf).mem_iff (a := k)
    rw [ho] at pk
    by_cases c : k ∈ done.map keyOf
    · rw [decide_eq_true c]
      exact ((hm.mpr (pk.mp c))).symm
    · rw [decide_eq_false c]
      cases hs2 : S2 k with
      | false => rfl
      | true => exact absurd (pk.mpr (hm.mp hs2)) c
/-- a set merged into one that isn't empty -/
theorem wp_mergeN {each : Sem Unit} {Q : Unit → Shared → Prop} (ne : a ≠ b) (R : SetR w s.heap a S n) (R2 : SetR w s.heap b S2 n2) (h0 : 0 < n) (hz : (n + n2) * 2 < 1024)
    (he : ∀ (o2 : Obj), s.heap.get? b = some o2 → ∀ (s' : Shared) (Q' : Unit → Shared → Prop), s'.heap.get? b = some o2 → Q' () s' → wpAny (model P w) A each Q' E s')
    (hQ : ∀ (h' : Heap) (S' : Int → Bool) (n' : Nat), Heap.SameBut a s.heap h' → (∀ k, S' k = (S k || S2 k)) → SetR w h' a S' n' → Q () { s with heap := h' }) : wpAny (model P w) A (setMerge a b each) Q E s := by
  obtain ⟨es, ep, t, o, p⟩ := SetP.of R
  obtain ⟨es2, ep2, t2, o2, q⟩ := SetP.of R2
  unfold setMerge
  have hab : ¬ (a == b) = true := by simpa using ne
  rw [if_neg hab]
  refine wpAny_bind (wpAny_setState_of q.ho q.hd q.fit ?_)
  dsimp only
  split
  · rename_i hemp
    have hes : es2 = #[] := Array.isEmpty_iff.mp hemp
    refine wpAny_pure (hQ s.heap S n (Heap.SameBut.refl a s.heap) (fun k => ?_) R)
    have hm := q.mem k
    rw [hes] at hm
    cases hs2 : S2 k with
    | false => simp
    | true => exact absurd (hm.mp hs2) (by simp)
  · have hn2 := q.hn
    -- behind the room: both sets stand, the first one's table isn't empty
    have body : ∀ (h' : Heap) (es' : Array (Int × Value)) (ep' : Nat) (t' : SetTable) (o' : Obj), Heap.SameBut a s.heap h' → SetP w h' a es' ep' t' S n o' → wpAny (model P w) A (do
        let __x ← setState a
        match __x with
          | (fst, fst_1, ts) =>
            match ts.road t2 with
            | SetTable.Road.slotForSlot =>
              storeSet a es2
                { mask := t2.mask, place := t2.place, dummies := t2.dummies, finger := ts.finger,
                  led := ts.led && t2.led, moves := ts.moves, plain := ts.plain && t2.plain }
            | SetTable.Road.clean => do
              let __x ← (do
                  let some (t, order) := SetTable.laid ts.mask ts.finger ts.moves (ts.led && t2.led) (ts.plain && t2.plain) (Array.map (fun x => x.fst) es2) | unsupported "internal:set-table-without-room"
                  let es' := order.filterMap (es2[·]?)
                  if es'.size != es2.size then unsupported "internal:set-table-lost-an-element"
                  pure (es', t))
              match __x with
                | (es, t) => storeSet a es t
            | SetTable.Road.oneByOne => do
              let __do_lift ← setWalkUnseen b [a] (some a)
              forIn __do_lift PUnit.unit fun x __s =>
                  match x with
                  | (h, x) => do
                    let _ ← holding [x] (setAddHashed a x h)
                    each
                    let __do_lift ← setState b
                    if (__do_lift.snd.fst != ep2) = true then do
                        unsupported "set.changed-during-merge"
                        pure (ForInStep.yield PUnit.unit)
                      else pure (ForInStep.yield PUnit.unit)
              pure ()) Q E { s with heap := h' } := by
      intro h' es' ep' t' o' sb p'
      refine wpAny_bind (wpAny_setState_of (s := { s with heap := h' }) p'.ho p'.hd p'.fit ?_)
      dsimp only
      have hr : t'.road t2 = .oneByOne := by
        unfold SetTable.road
        have hf : (t'.fill != 0) = true := by
          unfold SetTable.fill
          rw [(fits_place p'.fit).1, p'.hn]
          simp; omega
        rw [if_pos hf]
      rw [hr]
      dsimp only
      have q' : SetP w h' b es2 ep2 t2 S2 n2 o2 := q.at fun u e => by rw [sb.2 b (Ne.symm ne)]; exact e
      refine wpAny_bind (wp_unseen (s := { s with heap := h' }) ne p' q' fun out h2 pm sb2 R3 => ?_)
      have q2 : SetP w h2 b es2 ep2 t2 S2 n2 o2 := q'.at fun u e => by rw [sb2.2 b (Ne.symm ne)]; exact e
      refine wpAny_bind (wp_fill (s := { s with heap := h2 }) ne R3 q2 (by omega) (fun s' Q' h1 h2 => he o2 q.ho s' Q' h1 h2) out pm fun h3 S' n' sb3 hS' R' => ?_)
      exact wpAny_pure (hQ h3 S' n' ((sb.trans sb2).trans sb3) hS' R')
    refine wpAny_bind (wp_room p (by rw [hn2]; omega) (fun _ => ?_) fun h' es' ep' t' o' _ sb p' _ _ => ?_)
    · exact body s.heap es ep t o (Heap.SameBut.refl a s.heap) p
    · exact body h' es' ep' t' o' sb p'
/-- a set merged into an empty one -/
theorem wp_merge0 {each : Sem Unit} {ep : Nat} {t : SetTable} {o : Obj} {Q : Unit → Shared → Prop} (ne : a ≠ b) (p : SetP w s.heap a #[] ep t (fun _ => false) 0 o) (hm7 : t.mask = 7) (hd0 : t.dummies = #[]) (R2 : SetR w s.heap b S2 n2) (hz : n2 * 2 < 1024)
    (hQ0 : n2 = 0 → Q () s) (hQ : ∀ (h' : Heap), 0 < n2 → Heap.SameBut a s.heap h' → SetR w h' a S2 n2 → Q () { s with heap := h' }) : wpAny (model P w) A (setMerge a b each) Q E s := by
  obtain ⟨es2, ep2, t2, o2, q⟩ := SetP.of R2
  unfold setMerge
  have hab : ¬ (a == b) = true := by simpa using ne
  rw [if_neg hab]
  refine wpAny_bind (wpAny_setState_of q.ho q.hd q.fit ?_)
  dsimp only
  split
  · rename_i hemp
    have hes : es2 = #[] := Array.isEmpty_iff.mp hemp
    refine wpAny_pure (hQ0 ?_)
    rw [← q.hn, hes]; rfl
  · rename_i hemp
    have hn2 := q.hn
    have h0 : 0 < n2 := by
      rcases Nat.eq_zero_or_pos n2 with z | z
      · rw [z] at hn2
        exact absurd (by rw [Array.eq_empty_of_size_eq_zero hn2]; rfl) hemp
      · exact z
    have body : ∀ (h' : Heap) (ep' : Nat) (t' : SetTable) (o' : Obj), Heap.SameBut a s.heap h' → SetP w h' a #[] ep' t' (fun _ => false) 0 o' → t'.dummies = #[] → Full (t'.mask + 1) → n2 ≤ t'.mask → wpAny (model P w) A (do
        let __x ← setState a
        match __x with
          | (fst, fst_1, ts) =>
            match ts.road t2 with
            | SetTable.Road.slotForSlot =>
              storeSet a es2
                { mask := t2.mask, place := t2.place, dummies := t2.dummies, finger := ts.finger,
                  led := ts.led && t2.led, moves := ts.moves, plain := ts.plain && t2.plain }
            | SetTable.Road.clean => do
              let __x ← (do
                  let some (t, order) := SetTable.laid ts.mask ts.finger ts.moves (ts.led && t2.led) (ts.plain && t2.plain) (Array.map (fun x => x.fst) es2) | unsupported "internal:set-table-without-room"
                  let es' := order.filterMap (es2[·]?)
                  if es'.size != es2.size then unsupported "internal:set-table-lost-an-element"
                  pure (es', t))
              match __x with
                | (es, t) => storeSet a es t
            | SetTable.Road.oneByOne => do
              let __do_lift ← setWalkUnseen b [a] (some a)
              forIn __do_lift PUnit.unit fun x __s =>
                  match x with
                  | (h, x) => do
                    let _ ← holding [x] (setAddHashed a x h)
                    each
                    let __do_lift ← setState b
                    if (__do_lift.snd.fst != ep2) = true then do
                        unsupported "set.changed-during-merge"
                        pure (ForInStep.yield PUnit.unit)
                      else pure (ForInStep.yield PUnit.unit)
              pure ()) Q E { s with heap := h' } := by
      intro h' ep' t' o' sb p' hd' fu hn'
      refine wpAny_bind (wpAny_setState_of (s := { s with heap := h' }) p'.ho p'.hd p'.fit ?_)
      dsimp only
      have hf : (t'.fill != 0) = false := by
        unfold SetTable.fill
        rw [(fits_place p'.fit).1, hd']
        rfl
      have hled : ∀ l : Bool, l = (t'.led && t2.led) → (w.params.followText "set-order" = true ∨ l = true) := fun l e => by
        rcases p'.led with z | z
        · exact Or.inl z
        · rcases q.led with y | y
          · exact Or.inl y
          · right; rw [e, z, y]; rfl
      -- what is stored is the second set's elements
      have fin : ∀ (es3 : Array (Int × Value)) (t3 : SetTable), es3.toList.Perm es2.toList → t3.fits es3.size = true → Ris t3.place.toList → t3.led = (t'.led && t2.led) → wpAny (model P w) A (storeSet a es3 t3) Q E { s with heap := h' } := by
        intro es3 t3 pm f3 r3 l3
        have hz3 : es3.size = es2.size := by rw [← Array.length_toList, pm.length_eq, Array.length_toList]
        refine wpAny_storeSet_of (s := { s with heap := h' }) p'.ho p'.hd ?_ (fits_of_scanBound (by rw [hz3]; exact q.sz))
        refine hQ _ h0 (sb.trans (Heap.SameBut.update h' a _)) ?_
        exact ⟨_, es3, _, t3, store_at p'.ho p'.hd, p'.ex, rfl, fun e he => q.good e (pm.mem_iff.mp he), (pm.map keyOf).nodup_iff.mpr q.nd, fun k => (q.mem k).trans (pm.map keyOf).mem_iff.symm, by rw [hz3]; exact q.sz, f3, by rw [hz3]; exact q.hn, r3, hled _ l3⟩
      unfold SetTable.road
      rw [hf]
      simp only [Bool.false_eq_true, if_false]
      by_cases hsl : (t'.mask == t2.mask && t2.dummies.isEmpty) = true
      · rw [if_pos hsl]
        dsimp only
        exact fin es2 _ (List.Perm.refl _) q.fit q.ris rfl
      · rw [if_neg hsl]
        dsimp only
        obtain ⟨t3, order, el, po, z1, r1, l1, _, m1, d1⟩ := laid_ok (finger := t'.finger) (moves := t'.moves) (led := t'.led && t2.led) (plain := t'.plain && t2.plain) fu (es2.map (·.1)) (by rw [Array.size_map, q.hn]; exact hn')
        rw [Array.size_map] at po z1
        refine wpAny_bind (wp_reord el po fun es3 pm => ?_)
        refine fin es3 t3 pm ?_ r1 l1
        have hz3 : es3.size = es2.size := by rw [← Array.length_toList, pm.length_eq, Array.length_toList]
        simp only [SetTable.fits, Bool.and_eq_true, beq_iff_eq, decide_eq_true_eq]
        refine ⟨by rw [z1, hz3], ?_⟩
        unfold SetTable.fill
        rw [d1, z1, m1, q.hn]
        show n2 + 0 ≤ _
        omega
    refine wpAny_bind (wp_room p (by rw [hn2]; omega) (fun hr => ?_) fun h' es' ep' t' o' _ sb p' hm' hd' => ?_)
    · have f7 : Full (t.mask + 1) := by rw [hm7]; exact full8
      refine body s.heap ep t o (Heap.SameBut.refl a s.heap) p hd0 f7 ?_
      unfold SetTable.roomFor at hr
      split at hr
      · cases hr
      · rename_i hc
        have hf : t.fill = 0 := by
          unfold SetTable.fill
          rw [(fits_place p.fit).1, hd0]
          rfl
        rw [hf, hn2, hm7] at hc
        omega
    · have he' : es' = #[] := Array.eq_empty_of_size_eq_zero p'.hn
      subst he'
      rw [hn2] at hm'
      obtain ⟨fu, hm, _⟩ := sizeAbove_full (n := (0 + n2) * 2) (by omega)
      exact body h' ep' t' o' sb p' hd' (by rw [hm']; exact fu) (by rw [hm']; omega)
end
end MN
set_option Elab.async false
set_option linter.all false
set_option maxRecDepth 100000
set_option maxHeartbeats 2000000
namespace MN
open PySem PySem.Spec PyProof.Rows L2
theorem slot_set_or : Slot "set" (dunder "or") "set.__or__" :=
  .of (owner := "set") (n := "__or__") (by rw [typeLookup_type, builtinLookup_eq_fast]; kernel_rfl) (by decide +kernel) (by decide +kernel) (by decide +kernel)
    (by first | exact .inl (by decide +kernel) | exact .inr (by decide +kernel)) (by rw [isSubtype_type]; kernel_rfl)
theorem fills_set_or : fillsNumberSlot (.type "set") "or" = pure true :=
  fillsNumberSlot_of (id := "set.__or__") (r := some (.builtin "set.__ror__")) (by rw [typeLookup_type, builtinLookup_eq_fast]; kernel_rfl) (by decide +kernel) (by rw [typeLookup_type, builtinLookup_eq_fast]; kernel_rfl)
theorem entry_set_or : entryFor table "set.__or__" = some Builtin.«frozenset.__or__» := entryFor_alias (id' := "frozenset.__or__") (by kernel_rfl) rfl (by decide +kernel) (by kernel_rfl)
theorem args_set_or (a b : Value) : argsOk "set.__or__" ⟨[a, b], []⟩ := by unfold argsOk; kernel_rfl
section
variable {P : Program} {w : World} {A : Around} {E : Value → Shared → Prop} {s : Shared} {a b : Addr} {S S2 : Int → Bool} {n n2 : Nat}
theorem ty_set (R : SetR w s.heap a S n) : s.TypeIs (.ref a) "set" := by
  obtain ⟨o, es, ep, t, ho, hex, _⟩ := R
  exact ⟨o, ho, hex.1⟩
theorem wp_anySet {Q : Bool → Shared → Prop} (R : SetR w s.heap a S n) (h : Q true s) : wpAny (model P w) A (Builtin.Frozenset.isAnySet (.ref a)) Q E s := by
  unfold Builtin.Frozenset.isAnySet
  refine wpAny_bind (wpAny_isInstance (ty_set R) sub_set_self ?_)
  exact wpAny_pure h
def freshSet (w : World) : Obj := { cls := .type "set", dict := none, data := .set #[] 0 (.fresh 0 0 (!w.params.followText "set-order")) }
theorem freshP {h : Heap} (w : World) : SetP w (h.push (freshSet w)) h.objs.size #[] 0 (.fresh 0 0 (!w.params.followText "set-order")) (fun _ => false) 0 (freshSet w) :=
  ⟨Heap.get?_push_size _ rfl, ⟨rfl, rfl, rfl⟩, rfl, (fun e he => by simp at he), (by simp), (fun k => by simp), (by decide), (by rfl), rfl, List.Pairwise.nil, by
    show _ ∨ (!w.params.followText "set-order") = true
    cases w.params.followText "set-order"
    · exact .inr rfl
    · exact .inl rfl⟩
theorem wp_newSet {Q : Value → Shared → Prop} (h : Q (.ref s.heap.objs.size) { s with heap := s.heap.push (freshSet w) }) : wpAny (model P w) A (newSet (.type "set")) Q E s := by
  unfold newSet
  refine wpAny_bind (wpAny_byText ?_)
  dsimp only
  simp only [newObj]
  exact wpAny_bind (wpAny_alloc (wpAny_pure h))
theorem SameBut.old {h h' : Heap} {c : Addr} (sb : Heap.SameBut c h h') {d : Addr} {o : Obj} (ne : d ≠ c) (e : h.get? d = some o) : h'.get? d = some o := by rw [sb.2 d ne]; exact e
/-- a copy -/
theorem wp_copy {Q : Value → Shared → Prop} (R : SetR w s.heap a S n) (hz : n * 2 < 1024)
    (hQ0 : n = 0 → Q (.ref s.heap.objs.size) { s with heap := s.heap.push (freshSet w) })
    (hQ : ∀ h', 0 < n → (∀ c o, s.heap.get? c = some o → h'.get? c = some o) → SetR w h' s.heap.objs.size S n → Q (.ref s.heap.objs.size) { s with heap := h' }) :
    wpAny (model P w) A (Builtin.Frozenset.copyOf a) Q E s := by
  unfold Builtin.Frozenset.copyOf Builtin.Frozenset.baseOf
  refine wpAny_bind (wpAny_bind (wpAny_isInstance (ty_set R) sub_set_self (wpAny_pure ?_)))
  simp only [if_true]
  refine wpAny_bind (wp_newSet ?_)
  unfold Builtin.Frozenset.addrOf
  refine wpAny_bind (wpAny_pure ?_)
  have hlt : a < s.heap.objs.size := R.lt
  have ne : s.heap.objs.size ≠ a := Nat.ne_of_gt hlt
  have R' : SetR w (s.heap.push (freshSet w)) a S n := R.at fun o e => Heap.get?_push_of_some _ e
  refine wpAny_bind (wp_merge0 (s := { s with heap := s.heap.push (freshSet w) }) ne (freshP w) rfl rfl R' hz (fun z => wpAny_pure (hQ0 z)) fun h' pz sb R2 => wpAny_pure ?_)
  refine hQ h' pz (fun c o e => ?_) R2
  exact SameBut.old sb (Nat.ne_of_lt (Heap.lt_size e)) (Heap.get?_push_of_some _ e)
/-- what a set's update does with a set -/
theorem wp_updSet {id : String} {c : Addr} {Q : Unit → Shared → Prop} (R2 : SetR w s.heap b S2 n2)
    (h : ∀ each : Sem Unit, (∀ (o2 : Obj), s.heap.get? b = some o2 → ∀ (s' : Shared) (Q' : Unit → Shared → Prop), s'.heap.get? b = some o2 → Q' () s' → wpAny (model P w) A each Q' E s') → wpAny (model P w) A (setMerge c b each) Q E s) :
    wpAny (model P w) A (Builtin.Frozenset.updateFrom id c (.ref b)) Q E s := by
  obtain ⟨es2, ep2, t2, o2, q⟩ := SetP.of R2
  unfold Builtin.Frozenset.updateFrom
  refine wpAny_bind (wp_anySet R2 ?_)
  simp only [if_true]
  unfold Builtin.Frozenset.addrOf
  refine wpAny_bind (wpAny_pure ?_)
  unfold Builtin.Frozenset.merge
  refine wpAny_bind (wpAny_setEpoch_of q.ho q.hd q.fit ?_)
  refine h _ fun o3 h3 s' Q' hb hq => ?_
  have e : o3 = o2 := Option.some.inj (h3.symm.trans q.ho)
  subst e
  unfold Builtin.Frozenset.unchanged
  refine wpAny_bind (wpAny_setEpoch_of hb q.hd q.fit ?_)
  have hne : (ep2 != ep2) = false := by simp
  rw [hne]
  simp only [Bool.false_eq_true, if_false]
  exact wpAny_pure hq
/-- **s | t** -/
theorem wp_union {Q : Value → Shared → Prop} (ne : a ≠ b) (R : SetR w s.heap a S n) (R2 : SetR w s.heap b S2 n2) (hz : (n + n2) * 2 < 1024)
    (hQ : ∀ h' S' n', (∀ c o, s.heap.get? c = some o → h'.get? c = some o) → (∀ k, S' k = (S k || S2 k)) → SetR w h' s.heap.objs.size S' n' → Q (.ref s.heap.objs.size) { s with heap := h' }) :
    wpAny (model P w) A (binaryOp .BitOr (.ref a) (.ref b)) Q E s := by
  refine wpAny_binaryOp_same (op := .BitOr) (T := "set") (ty_set R) (ty_set R2) fills_set_or slot_set_or (wpAny_call_entry slot_set_or (ty_set R) entry_set_or ?_ (args_set_or _ _))
  show wpAny (model P w) A.in1 (do
    let (self, other) ← Builtin.Frozenset.slot1 "__or__" ⟨[.ref a, .ref b], []⟩
    let (l, r) := if false then (other, self) else (self, other)
    if !(← Builtin.Frozenset.isAnySet l <&&> Builtin.Frozenset.isAnySet r) then rule s!"frozenset.{"__or__"}.declined"; return ← ret .notImplemented
    ret (← (fun (id : String) (l : Addr) (r : Value) => (do
      let result ← Builtin.Frozenset.copyOf l
      if r != .ref l then holding [result] (Builtin.Frozenset.updateFrom id (← Builtin.Frozenset.addrOf result) r)
      return result : Sem Value)) s!"frozenset.{"__or__"}" (← Builtin.Frozenset.addrOf l) r)) _ _ s
  unfold Builtin.Frozenset.slot1
  refine wpAny_bind (wpAny_bind (m := slotArgs "__or__" 1 _) (wpAny_pure (wpAny_pure ?_)))
  simp only [Bool.false_eq_true, if_false]
  refine wpAny_bind (wpAny_bind (wp_anySet R ?_))
  refine wp_anySet R2 ?_
  simp only [Bool.not_true, Bool.false_eq_true, if_false]
  unfold Builtin.Frozenset.addrOf
  refine wpAny_bind (wpAny_pure ?_)
  have hbne : (Value.ref b != Value.ref a) = true := by simpa using Ne.symm ne
  have hla : a < s.heap.objs.size := R.lt
  have hlb : b < s.heap.objs.size := R2.lt
  have fin : ∀ h', (∀ c o, s.heap.get? c = some o → h'.get? c = some o) → ∀ S' n', (∀ k, S' k = (S k || S2 k)) → SetR w h' s.heap.objs.size S' n' → wpAny (model P w) A.in1 (ret (Value.ref s.heap.objs.size)) (fun fin s' => ∃ v, fin = .done (.ret v) ∧ v ≠ .notImplemented ∧ Q v s') E { s with heap := h' } := fun h' k S' n' e r => by
    exact wpAny_pure ⟨_, rfl, by simp, hQ h' S' n' k e r⟩
  refine wpAny_bind (wpAny_bind (wp_copy R (by omega) (fun z => ?_) fun h1 pz k1 R1 => ?_))
  · rw [if_pos hbne]
    refine wpAny_bind (wpAny_pure ?_)
    refine wpAny_bind (wpAny_holding ?_)
    have R2' : SetR w (s.heap.push (freshSet w)) b S2 n2 := R2.at fun o e => Heap.get?_push_of_some _ e
    refine wp_updSet (s := { s with heap := s.heap.push (freshSet w) }) R2' fun each he => ?_
    have kp : ∀ c o, s.heap.get? c = some o → (s.heap.push (freshSet w)).get? c = some o := fun c o e => Heap.get?_push_of_some _ e
    have hS0 : ∀ k, S k = false := fun k => by
      obtain ⟨es, ep, t, o, p⟩ := SetP.of R
      have he : es = #[] := Array.eq_empty_of_size_eq_zero (by rw [p.hn]; exact z)
      have hm := p.mem k
      rw [he] at hm
      cases hs : S k with
      | false => rfl
      | true => exact absurd (hm.mp hs) (by simp)
    refine wp_merge0 (s := { s with heap := s.heap.push (freshSet w) }) (Nat.ne_of_gt hlb) (freshP w) rfl rfl R2' (by omega) (fun z2 => ?_) fun h' pz sb R3 => ?_
    · refine wpAny_pure (fin _ kp (fun _ => false) 0 (fun k => ?_) (freshP w).r)
      rw [hS0 k]
      obtain ⟨es, ep, t, o, p⟩ := SetP.of R2
      have he : es = #[] := Array.eq_empty_of_size_eq_zero (by rw [p.hn]; exact z2)
      have hm := p.mem k
      rw [he] at hm
      cases hs : S2 k with
      | false => rfl
      | true => exact absurd (hm.mp hs) (by simp)
    · exact wpAny_pure (fin h' (fun c o e => SameBut.old sb (Nat.ne_of_lt (Heap.lt_size e)) (kp c o e)) S2 n2 (fun k => by rw [hS0 k]; rfl) R3)
  · rw [if_pos hbne]
    refine wpAny_bind (wpAny_pure ?_)
    refine wpAny_bind (wpAny_holding ?_)
    have R2' : SetR w h1 b S2 n2 := R2.at fun o e => k1 b o e
    refine wp_updSet (s := { s with heap := h1 }) R2' fun each he => ?_
    refine wp_mergeN (s := { s with heap := h1 }) (Nat.ne_of_gt hlb) R1 R2' pz hz he fun h' S' n' sb hS' R3 => ?_
    exact wpAny_pure (fin h' (fun c o e => SameBut.old sb (Nat.ne_of_lt (Heap.lt_size e)) (k1 c o e)) S' n' hS' R3)
end
end MN
set_option Elab.async false
set_option linter.all false
set_option maxRecDepth 100000
set_option maxHeartbeats 2000000
namespace MN
open PySem PySem.Spec PyProof.Rows L2
section
variable {P : Program} {w : World} {A : Around} {E : Value → Shared → Prop} {s : Shared} {a d : Addr} {S : Int → Bool} {n : Nat}
theorem code_set_led1 (x : Value) {Q₁ : Value → Shared → Prop} (h : Q₁ (.ref s.heap.objs.size) { s with heap := s.heap.push (freshSet w) }) :
    codeAny (model P w) A (.call (.builtin "set.__new__") ⟨[.type "set", x], []⟩) (wants Q₁ E) s := by
  refine codeAny_of_tree ?_
  show wpAny _ A.in1 (do checkBuiltinCall "set.__new__" ⟨[.type "set", x], []⟩; again (.builtin "set.__new__" ⟨[.type "set", x], []⟩)) _ _ s
  refine wpAny_bind (wpAny_of_eq (PySem.F.newCall_set_1 x) (wpAny_pure ⟨plainId_quiet PySem.F.plain_set_new _, codeAny_builtin PySem.F.entry_set_new ?_⟩))
  rw [Around.under_plainId PySem.F.plain_set_new _]
  unfold Builtin.«set.__new__» Builtin.Frozenset.newClass
  have hsub := sub_set_self
  obtain ⟨hp, g, d, tk, os⟩ := s
  dsimp only
  wp_walk
  refine wpAny_askSetting (wpAny_pure ?_)
  dsimp only
  simp only [newObj]
  refine wpAny_bind (wpAny_alloc (wpAny_pure ?_))
  exact wpAny_pure h
/-- the i-th key of a dict with keys that are ints -/
theorem entry_int {es : List DictEntry} {vs : List (Key × Value)} {ks : List Int} (hk : vs.map (·.1) = ks.map Sum.inl) (pr : Pairs (mixKind P w) es vs) : ∀ (i : Nat) (e : DictEntry), es[i]? = some e → ∃ k tk, ks[i]? = some k ∧ e.key = Value.int k tk := by
  induction pr generalizing ks with
  | nil => intro i e h; simp at h
  | @cons e0 kv es kvs h1 h2 pr ih =>
    cases ks with
    | nil => simp at hk
    | cons k ks =>
      rw [List.map_cons, List.map_cons] at hk
      injection hk with hk1 hk2
      intro i e h
      cases i with
      | zero =>
        have e1 : e0 = e := by simpa using h
        subst e1
        have h1' : keyIs kv.1 e0.key = true := h1
        rw [hk1] at h1'
        rcases keyIs_shape h1' with ⟨j, t, e2, e3⟩ | ⟨x, t, e2, _⟩
        · cases e2
          exact ⟨k, t, rfl, e3⟩
        · cases e2
      | succ i =>
        obtain ⟨k', tk, a1, a2⟩ := ih hk2 i e (by simpa using h)
        exact ⟨k', tk, by simpa using a1, a2⟩
theorem pairs_len {es : List DictEntry} {vs : List (Key × Value)} (pr : Pairs (mixKind P w) es vs) : es.length = vs.length := by
  induction pr with
  | nil => rfl
  | cons _ _ _ ih => rw [List.length_cons, List.length_cons, ih]
theorem wp_fromDict {c : Addr} {o : Obj} {es : Array DictEntry} {ep : Nat} {vs : List (Key × Value)} {ks : List Int} {t : SetTable} {o0 : Obj} {ep0 : Nat} {msg m2 : String} {Q : Unit → Shared → Prop} (hlt : d < c) (ho : s.heap.get? d = some o) (hdat : o.data = .dict es ep) (hlen : es.size = ks.length)
    (hk : vs.map (·.1) = ks.map Sum.inl) (hkeys : PySem.KeysOf (mixKind P w) es) (hpr : Pairs (mixKind P w) es.toList vs) (p0 : SetP w s.heap c #[] ep0 t (fun _ => false) 0 o0) (hm7 : t.mask = 7) (hz : ks.length * 2 < 1024)
    (hQ : ∀ h' S n, (∀ b o, b ≠ c → s.heap.get? b = some o → h'.get? b = some o) → (∀ k, S k = true ↔ k ∈ ks) → n ≤ ks.length → SetR w h' c S n → Q () { s with heap := h' }) :
    wpAny (model P w) A (do
      let epoch ← dictEpoch d
      let __do_lift ← dictEntries d
      setRoomFor c __do_lift.size
      let __do_lift ← dictEntries d
      forIn [:__do_lift.size] PUnit.unit fun i __s => do
          let __do_lift ← dictEntries d
          match __do_lift[i]? with
            | some e => do
              let _ ← holding [e.key] (setAddHashed c e.key e.hash)
              let __do_lift ← dictEpoch d
              if (__do_lift != epoch) = true then do
                  unsupported msg
                  pure (ForInStep.yield PUnit.unit)
                else pure (ForInStep.yield PUnit.unit)
            | x => do
              unsupported m2
              pure (ForInStep.yield PUnit.unit)
      pure ()) Q E s := by
  have hdc : d ≠ c := Nat.ne_of_lt hlt
  refine wpAny_bind (wpAny_dictEpoch ho hdat ?_)
  refine wpAny_bind (wpAny_dictEntries ho hdat ?_)
  have body : ∀ h1 : Heap, Heap.SameBut c s.heap h1 → SetR w h1 c (fun _ => false) 0 → wpAny (model P w) A (do
      let __do_lift ← dictEntries d
      forIn [:__do_lift.size] PUnit.unit fun i __s => do
          let __do_lift ← dictEntries d
          match __do_lift[i]? with
            | some e => do
              let _ ← holding [e.key] (setAddHashed c e.key e.hash)
              let __do_lift ← dictEpoch d
              if (__do_lift != ep) = true then do
                  unsupported msg
                  pure (ForInStep.yield PUnit.unit)
                else pure (ForInStep.yield PUnit.unit)
            | x => do
              unsupported m2
              pure (ForInStep.yield PUnit.unit)
      pure ()) Q E { s with heap := h1 } := by
    intro h1 sb1 R1
    have hd1 : h1.get? d = some o := SameBut.old sb1 hdc ho
    refine wpAny_bind (wpAny_dictEntries (s := { s with heap := h1 }) hd1 hdat ?_)
    refine wpAny_bind (PySem.SeqAt.wpAny_forIn_span (s := { s with heap := h1 }) 0 es.size _ (fun i _ s' => ∃ (h' : Heap) (S' : Int → Bool) (n' : Nat), s' = { s with heap := h' } ∧ Heap.SameBut c s.heap h' ∧ (∀ k, S' k = true ↔ k ∈ ks.take i) ∧ SetR w h' c S' n' ∧ n' ≤ i) _ ?_ ?_ PUnit.unit ⟨h1, _, _, rfl, sb1, fun k => by simp, R1, Nat.le_refl _⟩)
    · rintro i u s' _ hi ⟨h', S', n', rfl, sb, hS, R, hn⟩
      have hd' : h'.get? d = some o := SameBut.old sb hdc ho
      refine wpAny_bind (wpAny_dictEntries (s := { s with heap := h' }) hd' hdat ?_)
      have hget : es[i]? = some es[i] := Array.getElem?_eq_getElem hi
      rw [hget]
      dsimp only
      obtain ⟨k, tk, hki, hke⟩ := entry_int hk hpr i es[i] (by rw [Array.getElem?_toList]; exact hget)
      obtain ⟨k2, hk2, hh2⟩ := hkeys es[i] (Array.getElem_mem hi)
      have ek : k2 = Sum.inl k := by
        have h2 : keyIs k2 es[i].key = true := hk2
        rw [hke] at h2
        rcases keyIs_shape h2 with ⟨j, t, e2, e3⟩ | ⟨x, t, e2, e3⟩
        · injection e3 with e4 _
          rw [e2, e4]
        · cases e3
      rw [hke, hh2, ek]
      have hik : i < ks.length := (List.getElem?_eq_some_iff.mp hki).1
      refine wpAny_bind (wpAny_holding (setR_add_hashed (P := P) (s := { s with heap := h' }) (k := k) (tk := tk) R (by unfold scanBound; omega) fun h2 sb2 R2 => ?_))
      have hd2 : h2.get? d = some o := SameBut.old sb2 hdc hd'
      refine wpAny_bind (wpAny_dictEpoch (s := { s with heap := h2 }) hd2 hdat ?_)
      have hne : (ep != ep) = false := by simp
      rw [hne]
      simp only [Bool.false_eq_true, if_false]
      refine wpAny_pure ⟨h2, _, _, rfl, sb.trans sb2, fun j => ?_, R2, ?_⟩
      · rw [List.take_succ, hki, Bool.or_eq_true, hS j, List.mem_append, decide_eq_true_eq]
        simp
      · split <;> omega
    · rintro u s' ⟨h', S', n', rfl, sb, hS, R, hn⟩
      have e1 : max 0 es.size = ks.length := by omega
      rw [e1] at hS hn
      refine wpAny_pure (hQ h' S' n' (fun b ob nb e => SameBut.old sb nb e) (fun k => ?_) hn R)
      rw [hS k, List.take_length]
  refine wpAny_bind (wp_room p0 (by rw [hlen]; omega) (fun _ => ?_) fun h' es' ep' t' o' _ sb p' _ _ => ?_)
  · exact body s.heap (Heap.SameBut.refl c s.heap) p0.r
  · exact body h' sb p'.r
end
end MN
set_option Elab.async false
set_option linter.all false
set_option maxRecDepth 100000
set_option maxHeartbeats 2000000
namespace MN
open PySem PySem.Spec PyProof.Rows L2
section
variable {P : Program} {w : World} {A : Around} {E : Value → Shared → Prop} {s : Shared} {a d : Addr} {S : Int → Bool} {n : Nat}
/-- **set(d)** -/
theorem wp_setOfDict {vs : List (Key × Value)} {ks : List Int} {Q : Value → Shared → Prop} (hs : (d == sysModules) = false) (D : s.heap.DictOf (mixKind P w) d vs) (hk : vs.map (·.1) = ks.map Sum.inl) (hz : ks.length * 2 < 1024)
    (hQ : ∀ h' S n, (∀ c o, s.heap.get? c = some o → h'.get? c = some o) → (∀ k, S k = true ↔ k ∈ ks) → n ≤ ks.length → SetR w h' s.heap.objs.size S n → Q (.ref s.heap.objs.size) { s with heap := h' }) :
    wpAny (model P w) A (call (.type "set") [.ref d]) Q E s := by
  obtain ⟨c, tl, hmro⟩ := PySem.F.called_set.mro
  have hmade := PySem.F.called_set.made
  have hsub := PySem.F.called_set.sub
  refine wpAny_call (codeAny_of_tree ?_)
  show wpAny _ _ (callAny (.type "set") _) _ _ _
  refine wpAny_pure ⟨Code.quiet_builtin _ (by decide +kernel), codeAny_builtin PySem.F.entry_type_call ?_⟩
  rw [Around.under_plain (weight_type_call_type "set" [.ref d] []) rfl]
  have h1 := PySem.F.called_set.notType
  have h2 := PySem.F.called_set.canCreate
  have hct := PySem.F.typeCall_set_1 (.ref d)
  repeat (any_goals (first | assumption | wp_step))
  refine codeAny_mono (code_set_led1 (.ref d) (E := E) (Q₁ := fun obj s₁ => obj = .ref s.heap.objs.size ∧ s₁ = { s with heap := s.heap.push (freshSet w) }) ⟨rfl, rfl⟩) fun r s₁ hr => ?_
  cases r with
  | error e => exact hr
  | ok fl =>
    cases fl with
    | ret obj =>
      obtain ⟨rfl, rfl⟩ := hr
      have p0 := freshP (h := s.heap) w
      have hT : Shared.TypeIs { s with heap := s.heap.push (freshSet w) } (.ref s.heap.objs.size) "set" := ⟨_, p0.ho, rfl⟩
      have hli := PySem.F.called_set.init.lookup
      have hbi := PySem.F.called_set.init.bind (.ref s.heap.objs.size)
      repeat (any_goals (first | assumption | wp_step))
      refine codeAny_mono (codeAny_call_builtin (R := wants (fun r s₂ => r = .none ∧ Q (.ref s.heap.objs.size) s₂) E) PySem.F.called_set.init.plain PySem.F.entry_set_init (check_set_init_1 hT ?_)) fun r₂ s₂ hr₂ => ?_
      · obtain ⟨o, es, ep, ho, hex, hdat, hkeys, hpr, hnd⟩ := D
        have hlt : d < s.heap.objs.size := Heap.lt_size ho
        have ho' : (s.heap.push (freshSet w)).get? d = some o := Heap.get?_push_of_some _ ho
        have hTd : Shared.TypeIs { s with heap := s.heap.push (freshSet w) } (.ref d) "dict" := ⟨o, ho', hex.1⟩
        have hlen : es.size = ks.length := by
          rw [← Array.length_toList, pairs_len hpr]
          have := congrArg List.length hk
          rw [List.length_map, List.length_map] at this
          exact this
        unfold Builtin.«set.__init__» noKeywords
        wp_walk
        refine wpAny_of_eq PySem.F.sub_dict_set ?_
        refine wpAny_isInstance hTd PySem.F.sub_dict_frozenset ?_
        simp only [Bool.false_eq_true, if_false]
        refine wpAny_bind (wpAny_typeOf hTd ?_)
        rw [if_pos (by decide)]
        refine wpAny_bind (wpAny_rule ?_)
        unfold Builtin.Frozenset.addrOf
        refine wpAny_bind (wpAny_pure ?_)
        rw [hs]
        simp only [Bool.false_eq_true, if_false]
        exact wp_fromDict hlt ho' hdat hlen hk hkeys hpr p0 rfl hz fun h' S n kp hS hn R => wpAny_pure ⟨rfl, hQ h' S n (fun c o e => kp c o (Nat.ne_of_lt (Heap.lt_size e)) (Heap.get?_push_of_some _ e)) hS hn R⟩
      · cases r₂ with
        | error e => exact hr₂
        | ok fl₂ =>
          cases fl₂ with
          | ret r =>
            obtain ⟨rfl, hq⟩ := hr₂
            repeat (any_goals (first | assumption | wp_step))
          | _ => exact hr₂.elim
    | _ => exact hr.elim
end
end MN
set_option Elab.async false
set_option linter.all false
set_option maxRecDepth 100000
set_option maxHeartbeats 2000000
namespace MN
open PySem PySem.Spec PyProof.Rows L2
section
variable {P : Program} {w : World} {A : Around} {E : Value → Shared → Prop} {s : Shared} {a d : Addr} {S : Int → Bool} {n : Nat}
/-- sorted(s), whatever the number of members -/
theorem sorted_setA {Q : Value → Shared → Prop} (R : SetR w s.heap a S n) (hh : A.handled = none)
    (hQ : ∀ s' p (out : Array Value) (c : Nat) (ns : List Int), (∀ b o, s.heap.get? b = some o → s'.heap.get? b = some o) → s'.gens = s.gens → s'.os = s.os → s.heap.objs.size ≤ p →
      s'.heap.get? p = some (seqObj "list" out c) → IntsAre out.toList ns → ns.Pairwise (· < ·) → (∀ k, k ∈ ns ↔ S k = true) → ns.length = n → Q (.ref p) s') :
    wpAny (model P w) A (call (.builtin "sorted") [.ref a]) Q E s := by
  obtain ⟨o, es, ep, t, ho, hex, hd, g, nd, hm, hb, hf, hn, hr, hl⟩ := R
  refine Calls.call_function_entry kind_sorted plain_sorted entry_sorted (args_sorted1 _) ?_
  unfold Builtin.«sorted»
  refine wpAny_bind (m := checkCount "sorted" 1 1 _) (wpAny_pure ?_)
  refine wpAny_bind (collect_set (A := A.in1) hh ⟨o, ho, hex.1, hd⟩ hf hb hr hl fun s1 vs k1 hz g1 o1 pm => ?_)
  have hvl : vs.length = n := by rw [pm.length_eq, List.length_map, Array.length_toList]; exact hn
  have hI : IntsAre vs (vs.map Builtin.Re.reRawOf) := ints_of vs fun v hv => by
    obtain ⟨e, he, q⟩ := List.mem_map.mp (pm.mem_iff.mp hv)
    obtain ⟨k, tk, h1, _⟩ := g e he
    exact ⟨k, tk, by rw [← q]; exact h1⟩
  have pk : (vs.map Builtin.Re.reRawOf).Perm (es.toList.map keyOf) := by
    have q := pm.map Builtin.Re.reRawOf
    rw [List.map_map] at q
    exact q
  have hsz : vs.length ≤ sizeLine := by rw [hvl, ← hn]; exact fits_of_scanBound hb
  refine wpAny_bind (wpAny_newList ?_ hsz)
  have hoL : (s1.heap.push (seqObj "list" vs.toArray 0)).get? s1.heap.objs.size = some (seqObj "list" vs.toArray 0) := Heap.get?_push_size _ rfl
  refine wpAny_bind (wpAny_holding (wpAny_call_entry slot_list_sort ⟨_, hoL, rfl⟩ entry_list_sort
    (SrtO.list_sort_ord SrtO.swo_int hoL hsz (fun h2 => SrtO.ints_sortable hI h2) fun out h1 h2 => ⟨_, rfl, ?_⟩) (args_list_sort _)))
  obtain ⟨a1, a2, a3⟩ := SrtO.ints_out hI h1 h2
  obtain ⟨c, hc⟩ := sortedHeap_at (vs := vs) (out := out.toArray) hoL
  have pn : (out.map SrtO.iv).Perm (es.toList.map keyOf) := a2.trans pk
  refine wpAny_pure ⟨_, rfl, hQ _ s1.heap.objs.size out.toArray c (out.map SrtO.iv) (fun b u e => ?_) g1 o1 hz hc (by simpa using a1) (lt_of_le_nodup _ a3 (pn.nodup_iff.mpr nd)) (fun k => by rw [pn.mem_iff, ← hm k]) ?_⟩
  · have q := k1 b u e
    have hlt := Heap.lt_size q
    show (sortedHeap (s1.heap.push (seqObj "list" vs.toArray 0)) s1.heap.objs.size vs out.toArray).get? b = some u
    rw [sortedHeap_old (Nat.ne_of_lt hlt) (by rw [size_push']; exact Nat.lt_succ_of_lt hlt)]
    exact Heap.get?_push_of_some _ q
  · rw [pn.length_eq, List.length_map, Array.length_toList]; exact hn
end
/-! ### the layer's rules -/
/-- set(d), d a dict with keys that are ints -/
def rSetD (w : World) : List V → Hp → VK → Prop := fun xs H Q => ∃ (d : Addr) (kvs : List (Key × V)) (ks : List Int), xs = [.ref d] ∧ Rd H d (.dK kvs) ∧ kvs.map (·.1) = ks.map Sum.inl ∧ ks.length * 2 < 1024 ∧
  ∀ p S n, H p = none → (∀ k, S k = true ↔ k ∈ ks) → n ≤ ks.length → Q (.ref p) (upd H p (SetO w p S n))
/-- s | t -/
def rSetOr (w : World) : V → V → Hp → VK → Prop := fun x y H Q => ∃ (a b : Addr) (S T : Int → Bool) (n m : Nat), x = .ref a ∧ y = .ref b ∧ a ≠ b ∧ H a = some (SetO w a S n) ∧ H b = some (SetO w b T m) ∧ (n + m) * 2 < 1024 ∧
  ∀ p U k, H p = none → (∀ j, U j = (S j || T j)) → Q (.ref p) (upd H p (SetO w p U k))
/-- sorted(s) -/
def rSortedSetA (w : World) : List V → Hp → VK → Prop := fun vs H Q => ∃ (a : Addr) (S : Int → Bool) (n : Nat), vs = [V.ref a] ∧ H a = some (SetO w a S n) ∧
  ∀ (ns : List Int) (p : Addr), ns.Pairwise (· < ·) → (∀ k : Int, k ∈ ns ↔ S k = true) → ns.length = n → H p = none → Q (.ref p) (upd H p (.lst (ns.map V.int)))
section
variable {X : Cx}
theorem kv_keys : ∀ {kvs : List (Key × V)} {vs : List (Key × Value)}, KV kvs vs → vs.map (·.1) = kvs.map (·.1)
  | _, _, .nil => rfl
  | _, _, .cons h t => by
    rw [List.map_cons, List.map_cons, kv_keys t, h.1]
theorem cr_setD : CallR X (.type "set") (rSetD X.w) := by
  intro pins s σ H xs us Q I r h
  obtain ⟨d, kvs, ks, rfl, rd, hk, hz, q⟩ := h
  rw [Vals.ref1 r]
  obtain ⟨_, hd, vs, kv, D⟩ := rd.ok I.hok
  refine wp_setOfDict hd D ((kv_keys kv).trans hk) hz fun h' S n kp hS hn R => ?_
  exact ⟨.ref _, upd H s.heap.objs.size (SetO X.w s.heap.objs.size S n), I.laid (t' := s.toks) (fun b u e => kp b u e) (Nat.le_refl _) (setO_new R), rfl, q _ S n (I.hok.fresh (Nat.le_refl _)) hS hn⟩
theorem op_setOr : OpR X (binaryOp .BitOr) (rSetOr X.w) := by
  intro pins s σ H x y v u Q I rx ry h
  obtain ⟨a, b, S, T, n, m, rfl, rfl, ne, ha, hb, hz, q⟩ := h
  cases rx
  cases ry
  refine wp_union ne (setO_get I ha) (setO_get I hb) hz fun h' U k kp hU R => ?_
  exact ⟨.ref _, upd H s.heap.objs.size (SetO X.w s.heap.objs.size U k), I.laid (t' := s.toks) (fun b u e => kp b u e) (Nat.le_refl _) (setO_new R), rfl, q _ U k (I.hok.fresh (Nat.le_refl _)) hU⟩
theorem cr_sortedSetA (hc : X.calm = true) : CallR X (.builtin "sorted") (rSortedSetA X.w) := by
  intro pins s σ H vs us Q I r h
  obtain ⟨a, S, n, rfl, ha, q⟩ := h
  have R := setO_get I ha
  have hn : n ≤ sizeLine := by
    obtain ⟨es, ep, t, o, p⟩ := SetP.of R
    rw [← p.hn]; exact fits_of_scanBound p.sz
  rw [Vals.ref1 r]
  refine sorted_setA R (I.ok.hd hc) fun s' p out c ns k g o hp hg hi hs hm hl => ?_
  have hlen : (ns.map V.int).length ≤ sizeLine := by rw [List.length_map, hl]; exact hn
  have hnp : H p = none := I.hok.fresh hp
  have J : Inv X pins σ (upd H p (.lst (ns.map V.int))) { s with heap := s'.heap, gens := s'.gens, drawn := s'.drawn, toks := s'.toks } :=
    I.call (ch := []) (Un.laid k hp hnp) (I.hok.laid k hp ⟨hlen, out.toList, c, vals_of_ints hi, hg⟩) (by rw [g]; exact I.bare) (fun _ z => nomatch z)
  have e : s' = { s with heap := s'.heap, gens := s'.gens, drawn := s'.drawn, toks := s'.toks } := by
    cases s'
    cases s
    cases o
    rfl
  rw [e]
  exact ⟨.ref p, _, J, rfl, q ns p hs hm hl hnp⟩
end
end MN
set_option Elab.async false
set_option linter.all false
set_option maxRecDepth 100000
set_option maxHeartbeats 2000000
namespace MN
open PySem PySem.Spec PyProof.Rows L2
/-- sorted(d), a dict with keys that are ints, whatever their number -/
def rSortedDA : List V → Hp → VK → Prop := fun xs H Q => ∃ (a : Addr) (kvs : List (Key × V)) (ks : List Int), xs = [.ref a] ∧ Rd H a (.dK kvs) ∧ kvs.map (·.1) = ks.map Sum.inl ∧
  ∀ (ys : List Int) (p : Addr), ys.Perm ks → ys.Pairwise (· ≤ ·) → H p = none → Q (.ref p) (upd H p (.lst (ys.map V.int)))
variable {X : Cx}
theorem key_ints {vs : List (Key × Value)} {ks : List Int} (hkeys : vs.map (·.1) = ks.map Sum.inl) (hl : vs.length = ks.length) {acc : Array Value} (hz : acc.size = vs.length)
    (h : ∀ (j : Nat) (v : Value), acc[j]? = some v → ∃ k x, vs[j]? = some (k, x) ∧ keyIs k v = true) : IntsAre acc.toList ks := by
  refine ints_each (by rw [Array.length_toList, hz, hl]) fun j v e => ?_
  obtain ⟨k, x, e1, e2⟩ := h j v (by rw [← Array.getElem?_toList]; exact e)
  have e3 : (ks.map Sum.inl : List Key)[j]? = some k := by rw [← hkeys, List.getElem?_map, e1]; rfl
  rw [List.getElem?_map] at e3
  cases e4 : ks[j]? with
  | none => rw [e4] at e3; cases e3
  | some y =>
    rw [e4] at e3
    cases (Option.some.inj e3 : Sum.inl y = k)
    rcases keyIs_shape e2 with ⟨i, t, ek, ev⟩ | ⟨z, t, ek, ev⟩
    · cases ek
      exact ⟨y, t, rfl, ev⟩
    · cases ek
theorem cr_sortedDA (calm : X.calm = true) : CallR X (.builtin "sorted") rSortedDA := by
  rintro pins s σ H xs us Q I r ⟨a, kvs, ks, rfl, hd, hks, q⟩
  rw [Vals.ref1 r]
  obtain ⟨z, lo, vs, rel, dd⟩ := dk_rd I.hok hd
  obtain ⟨ep, hat⟩ := dd.dictAt
  have hkeys : vs.map (·.1) = ks.map Sum.inl := (kv_keys rel).trans hks
  have hl : vs.length = ks.length := by simpa using congrArg List.length hkeys
  have hz : vs.length ≤ sizeLine := by rw [← rel.length]; exact z
  refine Calls.call_function_entry kind_sorted plain_sorted entry_sorted (args_sorted1 _) (wpAny_bind (m := checkCount "sorted" 1 1 _) (wpAny_pure ?_))
  refine wpAny_bind (PySem.W.kdu_collect (PySem.W.kdl_dict (knd := mixKind X.prog X.w) (kvs := vs) (ep := ep) lo) (I.ok.hd calm) hat hz fun h' tk acc hk hacc => ?_)
  have J : Inv X pins σ H { s with heap := h', toks := tk } := I.kept hk
  have hS := key_ints hkeys hl hacc.1 fun j v e => hacc.2 j v e
  have hal : acc.toList.length ≤ sizeLine := by rw [Array.length_toList, hacc.1]; exact hz
  refine wpAny_bind (wpAny_newList ?_ hal)
  have hoL : (h'.push (seqObj "list" acc.toList.toArray 0)).get? h'.objs.size = some (seqObj "list" acc.toList.toArray 0) := Heap.get?_push_size _ rfl
  refine wpAny_bind (wpAny_holding (wpAny_call_entry slot_list_sort ⟨_, hoL, rfl⟩ entry_list_sort
    (SrtO.list_sort_ord (s := { s with heap := h'.push (seqObj "list" acc.toList.toArray 0), toks := tk }) SrtO.swo_int hoL hal (fun h2 => SrtO.ints_sortable hS h2) fun out h1 h2 => ⟨_, rfl, ?_⟩) (args_list_sort _)))
  obtain ⟨g1, g2, g3⟩ := SrtO.ints_out hS h1 h2
  obtain ⟨e', he'⟩ := sortedHeap_at (vs := acc.toList) (out := out.toArray) hoL
  have hlen : ((out.map SrtO.iv).map V.int).length ≤ sizeLine := by rw [List.length_map, g2.length_eq, ← hl]; exact hz
  refine wpAny_pure ⟨_, rfl, .ref h'.objs.size, upd H h'.objs.size (.lst ((out.map SrtO.iv).map V.int)), J.laid (t' := tk) (fun b u e => ?_) (Nat.le_refl _) ⟨hlen, out, e', vals_of_ints g1, he'⟩, rfl, q _ _ g2 g3 (J.hok.fresh (Nat.le_refl _))⟩
  have hb : b < h'.objs.size := Heap.lt_size e
  rw [sortedHeap_old (Nat.ne_of_lt hb) (by rw [size_push']; exact Nat.lt_succ_of_lt hb)]
  exact Heap.get?_push_of_some _ e
end MN
set_option Elab.async false
set_option linter.all false
set_option maxRecDepth 100000
set_option maxHeartbeats 2000000
namespace MN
open PySem PySem.Spec PyProof.Rows L2
/-- sorted(d, reverse=True), a dict with keys that are ints -/
def rSortedDRev : List V → List V → Hp → VK → Prop := fun vs zs H Q => ∃ (a : Addr) (kvs : List (Key × V)) (ks : List Int), vs = [.ref a] ∧ zs = [.bl true] ∧ Rd H a (.dK kvs) ∧ kvs.map (·.1) = ks.map Sum.inl ∧
  ∀ (ys : List Int) (p : Addr), ys.Perm ks → ys.Pairwise (· ≥ ·) → H p = none → Q (.ref p) (upd H p (.lst (ys.map V.int)))
variable {X : Cx}
theorem cr_sortedDRev (calm : X.calm = true) : CallRK X (.builtin "sorted") [Str.ofString "reverse"] rSortedDRev := by
  rintro pins s σ H xs zs us ws Q I r rz ⟨a, kvs, ks, rfl, rfl, hd, hks, q⟩
  rw [Vals.ref1 r]
  obtain ⟨w1, rfl, e1⟩ := vals1 rz
  obtain rfl : w1 = Value.bool true := e1
  obtain ⟨z, lo, vs, rel, dd⟩ := dk_rd I.hok hd
  obtain ⟨ep, hat⟩ := dd.dictAt
  have hkeys : vs.map (·.1) = ks.map Sum.inl := (kv_keys rel).trans hks
  have hl : vs.length = ks.length := by simpa using congrArg List.length hkeys
  have hz : vs.length ≤ sizeLine := by rw [← rel.length]; exact z
  show wpAny _ _ (call (.builtin "sorted") [.ref a] [(Str.ofString "reverse", .bool true)]) _ _ _
  refine call_function_entry_kw kind_sorted plain_sorted entry_sorted (PyProof.Rows.args_sorted_rev _ _) ?_
  unfold Builtin.«sorted»
  refine wpAny_bind (m := checkCount "sorted" 1 1 _) (wpAny_pure ?_)
  refine wpAny_bind (PySem.W.kdu_collect (PySem.W.kdl_dict (knd := mixKind X.prog X.w) (kvs := vs) (ep := ep) lo) (I.ok.hd calm) hat hz fun h' tk acc hk hacc => ?_)
  have J : Inv X pins σ H { s with heap := h', toks := tk } := I.kept hk
  have hS := key_ints hkeys hl hacc.1 fun j v e => hacc.2 j v e
  have hal : acc.toList.length ≤ sizeLine := by rw [Array.length_toList, hacc.1]; exact hz
  refine wpAny_bind (wpAny_newList ?_ hal)
  have hoL : (h'.push (seqObj "list" acc.toList.toArray 0)).get? h'.objs.size = some (seqObj "list" acc.toList.toArray 0) := Heap.get?_push_size _ rfl
  refine wpAny_bind (wpAny_holding (wpAny_call_entry_kw slot_list_sort ⟨_, hoL, rfl⟩ entry_list_sort
    (SrtR.list_sort_ordR (s := { s with heap := h'.push (seqObj "list" acc.toList.toArray 0), toks := tk }) (b := true) SrtO.swo_int hoL hal (fun h2 => SrtO.ints_sortable hS h2) fun out h1 h2 => ⟨_, rfl, ?_⟩) (PyProof.Rows.args_list_sort_rev _ _)))
  obtain ⟨ns', g1, g2, g3⟩ := SrtR.ints_outR (b := true) hS h1 h2
  obtain ⟨e', he'⟩ := sortedHeap_at (vs := acc.toList) (out := if true = true then out.toArray.reverse else out.toArray) hoL
  have hlen : (ns'.map V.int).length ≤ sizeLine := by rw [List.length_map, g2.length_eq, ← hl]; exact hz
  have e0 : ((if true = true then out.toArray.reverse else out.toArray).toList).toArray = (if true = true then out.toArray.reverse else out.toArray) := by rw [Array.toArray_toList]
  refine wpAny_pure ⟨_, rfl, .ref h'.objs.size, upd H h'.objs.size (.lst (ns'.map V.int)), J.laid (t' := tk) (fun b u e => ?_) (Nat.le_refl _) ⟨hlen, _, e', vals_of_ints g1, by rw [e0]; exact he'⟩, rfl, q _ _ g2 g3 (J.hok.fresh (Nat.le_refl _))⟩
  have hb : b < h'.objs.size := Heap.lt_size e
  rw [sortedHeap_old (Nat.ne_of_lt hb) (by rw [size_push']; exact Nat.lt_succ_of_lt hb)]
  exact Heap.get?_push_of_some _ e
end MN
set_option Elab.async false
set_option linter.all false
set_option maxRecDepth 100000
set_option maxHeartbeats 2000000
namespace MN
open PySem PySem.Spec PyProof.Rows L2
/-- a op1 b op2 c op3 d -/
def tChain3 (r1 r2 r3 : R2) (ta tb tc td : TE) : TE := fun σ H Q => ta σ H fun x H1 => tb σ H1 fun y H2 => r1 x y H2 fun z H3 => ∃ k, z = .bl k ∧
  (if k = true then tc σ H3 fun u H4 => r2 y u H4 fun z2 H5 => ∃ k2, z2 = .bl k2 ∧ (if k2 = true then td σ H5 fun v H6 => r3 u v H6 Q else Q (.bl false) H5) else Q (.bl false) H3)
theorem pe_chain3 {X : Cx} {a b c d : Expr} {pos : Pos} {ta tb tc td : TE} {o1 o2 o3 : CmpOp} {r1 r2 r3 : R2} (h1 : OpR X (compareOp o1) r1) (h2 : OpR X (compareOp o2) r2) (h3 : OpR X (compareOp o3) r3) (ha : PE X a ta) (hb : PE X b tb) (hc : PE X c tc) (hd : PE X d td)
    (hm : lastMarks [o1, o2, o3] [b, c, d] = false := by with_unfolding_all rfl) : PE X (.Compare a [o1, o2, o3] [b, c, d] pos) (tChain3 r1 r2 r3 ta tb tc td) := by
  refine ⟨fun pins s σ H Q I h => ?_⟩
  refine Compare_chain (thn (ha.run pins s σ H _ I h) fun v s1 ⟨x, H1, I1, r1, q1⟩ => chain_link (thn (hb.run pins s1 σ H1 _ I1 q1) fun u s2 ⟨y, H2, I2, r2, q2⟩ =>
    thn (h1 pins s2 σ H2 x y v u _ I2 r1 r2 q2) fun d s3 ⟨z, H3, I3, r3, k, e, q3⟩ => ?_)) hm
  subst e
  cases r3
  refine wpAny_truthy_bool ?_
  cases k with
  | false => exact ite_ff ⟨.bl false, H3, I3, rfl, q3⟩
  | true =>
    refine ite_tt (chain_link (thn (hc.run pins s3 σ H3 _ I3 q3) fun w' s4 ⟨z', H4, I4, r4, q4⟩ => thn (h2 pins s4 σ H4 y z' u w' _ I4 r2 r4 q4) fun d2 s5 ⟨z2, H5, I5, r5, k2, e2, q5⟩ => ?_))
    subst e2
    cases r5
    refine wpAny_truthy_bool ?_
    cases k2 with
    | false => exact ite_ff ⟨.bl false, H5, I5, rfl, q5⟩
    | true => exact ite_tt (chain_last (thn (hd.run pins s5 σ H5 _ I5 q5) fun w2 s6 ⟨z3, H6, I6, r6, q6⟩ => h3 pins s6 σ H6 z' z3 w' w2 Q I6 r4 r6 q6))
end MN
set_option Elab.async false
set_option maxRecDepth 100000
set_option maxHeartbeats 2000000
namespace MN
open PySem PySem.Spec PyProof.Rows L2
variable {P : Program} {w : World} {K : PySem.W.Frag} {mg : Str → Option Value} {base : Heap} {Z : Cs}
/-- a number in, a truth out; a number out -/
def spB1 (f : Int → Bool) : Sp := fun vs H Q _ => ∃ i : Int, vs = [.int i] ∧ Q (.bl (f i)) H
def spB2 (f : Int → Int → Bool) : Sp := fun vs H Q _ => ∃ i j : Int, vs = [.int i, .int j] ∧ Q (.bl (f i j)) H
def spI1 (f : Int → Int) : Sp := fun vs H Q _ => ∃ i : Int, vs = [.int i] ∧ Q (.int (f i)) H
def inR (lo hi z : Int) : Bool := decide (lo ≤ z) && decide (z ≤ hi)
theorem ite_and {a b : Bool} {Q : V → Hp → Prop} {H : Hp} (h : Q (.bl (a && b)) H) : ∃ k, V.bl a = V.bl k ∧ if k = true then Q (.bl b) H else Q (.bl false) H := by
  refine ⟨a, rfl, ?_⟩
  cases a with
  | true => exact iteT h
  | false => exact iteF h
theorem chain_le {lo z hi : Int} {Q : VK} {H : Hp} (h : Q (.bl (inR lo hi z)) H) : ∃ k, V.bl (decide (lo ≤ z)) = V.bl k ∧ if k = true then (∃ i j, V.int z = V.int i ∧ V.int hi = V.int j ∧ Q (.bl (decide (i ≤ j))) H) else Q (.bl false) H := by
  refine ⟨_, rfl, ?_⟩
  unfold inR at h
  by_cases c : lo ≤ z
  · rw [decide_eq_true c] at h ⊢
    exact iteT ⟨z, hi, rfl, rfl, h⟩
  · rw [decide_eq_false c] at h ⊢
    exact iteF h
theorem chain_lt {lo z hi : Int} {Q : VK} {H : Hp} (h : Q (.bl (decide (lo ≤ z) && decide (z < hi))) H) : ∃ k, V.bl (decide (lo ≤ z)) = V.bl k ∧ if k = true then (∃ i j, V.int z = V.int i ∧ V.int hi = V.int j ∧ Q (.bl (decide (i < j))) H) else Q (.bl false) H := by
  refine ⟨_, rfl, ?_⟩
  by_cases c : lo ≤ z
  · rw [decide_eq_true c] at h ⊢
    exact iteT ⟨z, hi, rfl, rfl, h⟩
  · rw [decide_eq_false c] at h ⊢
    exact iteF h
theorem ok_is_body_number (T : Txt K mg Z) : DefOk P w K mg base 1 "is_body_number" ["number"] (spB1 fun i => decide (0 ≤ i) && decide (i < 8)) := by
  refine T.f_is_body_number.ok sc_is_body_number (fun vs H Q E h => ?_) (fun f cdv A outer s H vs Q E hr h => ⟨_, (pss_one (ps_ret (pe_chain op_le op_lt pe_int (pv 0) (pe_gc T.c_BODIES)))), ?_⟩)
  · obtain ⟨i, rfl, _⟩ := h; rfl
  · obtain ⟨i, rfl, q⟩ := h
    exact ⟨_, rfl, _, _, rfl, rfl, chain_lt q⟩
theorem ok_is_body_key (T : Txt K mg Z) : DefOk P w K mg base 1 "is_body_key" ["key"] (spB1 fun i => decide (0 ≤ i) && decide (i < 32)) := by
  refine T.f_is_body_key.ok sc_is_body_key (fun vs H Q E h => ?_) (fun f cdv A outer s H vs Q E hr h => ⟨_, (pss_one (ps_ret (pe_chain op_le op_lt pe_int (pv 0) (pe_op op_mul (pe_gc T.c_BODIES) (pe_gc T.c_KEYS_OF_A_BODY))))), ?_⟩)
  · obtain ⟨i, rfl, _⟩ := h; rfl
  · obtain ⟨i, rfl, q⟩ := h
    refine ⟨_, rfl, _, _, rfl, rfl, ⟨_, rfl, ?_⟩⟩
    by_cases c : (0 : Int) ≤ i
    · have q' : Q (.bl (decide (i < 32))) H := by have q0 := q; dsimp only at q0; rw [decide_eq_true c] at q0; exact q0
      rw [decide_eq_true c]
      exact iteT ⟨_, _, rfl, rfl, .inl ⟨by decide, by decide⟩, _, _, rfl, rfl, q'⟩
    · have q' : Q (.bl false) H := by have q0 := q; dsimp only at q0; rw [decide_eq_false c] at q0; exact q0
      rw [decide_eq_false c]
      exact iteF q'
theorem ok_body_of_key (T : Txt K mg Z) : DefOk P w K mg base 1 "body_of_key" ["key"] (spI1 fun i => i / 4) := by
  refine T.f_body_of_key.ok sc_body_of_key (fun vs H Q E h => ?_) (fun f cdv A outer s H vs Q E hr h => ⟨_, (pss_one (ps_ret (pe_op op_fdivN (pv 0) (pe_gc T.c_KEYS_OF_A_BODY)))), ?_⟩)
  · obtain ⟨i, rfl, _⟩ := h; rfl
  · obtain ⟨i, rfl, q⟩ := h
    refine ⟨_, rfl, _, _, rfl, rfl, ⟨by decide, by decide⟩, ?_⟩
    have e : Int.fdiv i 4 = i / 4 := Int.fdiv_eq_ediv_of_nonneg i (by decide)
    show Q (.int (Int.fdiv i 4)) H
    rw [e]; exact q
theorem ok_is_place (T : Txt K mg Z) : DefOk P w K mg base 1 "is_place" ["value"] (spB1 (inR 0 1000)) := by
  refine T.f_is_place.ok sc_is_place (fun vs H Q E h => ?_) (fun f cdv A outer s H vs Q E hr h => ⟨_, (pss_one (ps_ret (pe_chain op_le op_le pe_int (pv 0) (pe_gc T.c_FURTHEST)))), ?_⟩)
  · obtain ⟨i, rfl, _⟩ := h; rfl
  · obtain ⟨i, rfl, q⟩ := h
    exact ⟨_, rfl, _, _, rfl, rfl, chain_le q⟩
theorem ok_is_speed (T : Txt K mg Z) : DefOk P w K mg base 1 "is_speed" ["value"] (spB1 (inR (-20) 20)) := by
  refine T.f_is_speed.ok sc_is_speed (fun vs H Q E h => ?_) (fun f cdv A outer s H vs Q E hr h => ⟨_, (pss_one (ps_ret (pe_chain op_le op_le (pe_un un_neg (pe_gc T.c_FASTEST)) (pv 0) (pe_gc T.c_FASTEST)))), ?_⟩)
  · obtain ⟨i, rfl, _⟩ := h; rfl
  · obtain ⟨i, rfl, q⟩ := h
    exact ⟨_, rfl, _, rfl, _, _, rfl, rfl, chain_le q⟩
theorem ok_is_push (T : Txt K mg Z) : DefOk P w K mg base 1 "is_push" ["value"] (spB1 (inR (-3) 3)) := by
  refine T.f_is_push.ok sc_is_push (fun vs H Q E h => ?_) (fun f cdv A outer s H vs Q E hr h => ⟨_, (pss_one (ps_ret (pe_chain op_le op_le (pe_un un_neg (pe_gc T.c_STRONGEST)) (pv 0) (pe_gc T.c_STRONGEST)))), ?_⟩)
  · obtain ⟨i, rfl, _⟩ := h; rfl
  · obtain ⟨i, rfl, q⟩ := h
    exact ⟨_, rfl, _, rfl, _, _, rfl, rfl, chain_le q⟩
theorem ok_fits_body_key (T : Txt K mg Z) : DefOk P w K mg base 2 "fits_body_key" ["key", "value"] (spB2 fun k z => if k % 4 < 2 then inR 0 1000 z else inR (-20) 20 z) := by
  refine T.f_fits_body_key.ok sc_fits_body_key (fun vs H Q E h => ?_) (fun f cdv A outer s H vs Q E hr h => ⟨_, (pss_cons (ps_if (pt_cmpR op_lt (pe_op op_modN (pv 0) (pe_gc T.c_KEYS_OF_A_BODY)) pe_int (nomark _)) (pss_one (ps_ret (pe_def (ok_is_place T) hr (pa_cons (pv 1) pa_nil)))) pss_nil)
      (pss_one (ps_ret (pe_def (ok_is_speed T) hr (pa_cons (pv 1) pa_nil))))), ?_⟩)
  · obtain ⟨i, j, rfl, _⟩ := h; rfl
  · obtain ⟨i, j, rfl, q⟩ := h
    have e : Int.fmod i 4 = i % 4 := Int.fmod_eq_emod_of_nonneg i (by decide)
    refine ⟨_, rfl, _, _, rfl, rfl, (by show (4 : Int) ≠ 0; decide), _, _, rfl, rfl, _, rfl, ?_⟩
    rw [e]
    by_cases c : i % 4 < 2
    · rw [decide_eq_true c]
      refine iteT ⟨_, rfl, j, rfl, ?_⟩
      dsimp only at q
      rw [if_pos c] at q
      exact q
    · rw [decide_eq_false c]
      refine iteF ⟨_, rfl, j, rfl, ?_⟩
      dsimp only at q
      rw [if_neg c] at q
      exact q
theorem ok_followed_key (T : Txt K mg Z) : DefOk P w K mg base 1 "followed_key" ["body"] (spI1 fun i => 1000 + i) := by
  refine T.f_followed_key.ok sc_followed_key (fun vs H Q E h => ?_) (fun f cdv A outer s H vs Q E hr h => ⟨_, (pss_one (ps_ret (pe_op op_add (pe_gc T.c_FIRST_FOLLOWED_KEY) (pv 0)))), ?_⟩)
  · obtain ⟨i, rfl, _⟩ := h; rfl
  · obtain ⟨i, rfl, q⟩ := h
    exact ⟨_, rfl, _, _, rfl, rfl, q⟩
/-- a dict of numbers to values, by its pairs -/
def ik (i : Int) : Key := Sum.inl i
def spHasBody : Sp := fun vs H Q _ => ∃ (a : Addr) (kvs : List (Key × V)) (b : Int), vs = [.ref a, .int b] ∧ H a = some (.dK kvs) ∧ Q (.bl (valV kvs (ik (1000 + b))).isSome) H
theorem ok_has_body (T : Txt K mg Z) : DefOk P w K mg base 2 "has_body" ["world", "body"] spHasBody := by
  refine T.f_has_body.ok sc_has_body (fun vs H Q E h => ?_) (fun f cdv A outer s H vs Q E hr h => ⟨_, (pss_one (ps_ret (pe_cmp (pc_din (hu_of hr) (pe_def (ok_followed_key T) hr (pa_cons (pv 1) pa_nil)) (pv 0)) rfl))), ?_⟩)
  · obtain ⟨a, kvs, b, rfl, _⟩ := h; rfl
  · obtain ⟨a, kvs, b, rfl, ha, q⟩ := h
    exact ⟨_, rfl, b, rfl, _, rfl, a, _, rfl, DGet.k (k := ik (1000 + b)) ha, q⟩
def put5 (kvs : List (Key × V)) (b x y u v : Int) : List (Key × V) := putK (putK (putK (putK (putK kvs (ik (4 * b)) (.int x)) (ik (4 * b + 1)) (.int y)) (ik (4 * b + 2)) (.int u)) (ik (4 * b + 3)) (.int v)) (ik (1000 + b)) (.int 0)
def spPutBody : Sp := fun vs H Q _ => ∃ (a : Addr) (kvs : List (Key × V)) (b x y u v : Int), vs = [.ref a, .int b, .int x, .int y, .int u, .int v] ∧ H a = some (.dK kvs) ∧ kvs.length < 100000 ∧
  Q .non (upd H a (.dK (put5 kvs b x y u v)))
theorem putK_le (c : List (Key × V)) (k : Key) (x : V) : (putK c k x).length ≤ c.length + 1 := length_putK c k x
theorem sizeL {n : Nat} (h : n < 1000000) : n < sizeLine := Nat.lt_of_lt_of_le h (by decide)
theorem ok_put_body (T : Txt K mg Z) : DefOk P w K mg base 2 "put_body" ["world", "body", "x", "y", "vx", "vy"] spPutBody := by
  refine T.f_put_body.ok sc_put_body (fun vs H Q E h => ?_) (fun f cdv A outer s H vs Q E hr h => ⟨_, (pss_cons (ps_set (i := 6) sc_put_body.nd rfl (Or.inl rfl) (pe_op op_mul (pe_gc T.c_KEYS_OF_A_BODY) (pv 1)))
      (pss_cons (ps_dput (hu_of hr) (pv 0) (pv 6) (pv 2) rfl)
      (pss_cons (ps_dput (hu_of hr) (pv 0) (pe_op op_add (pv 6) pe_int) (pv 3) rfl)
      (pss_cons (ps_dput (hu_of hr) (pv 0) (pe_op op_add (pv 6) pe_int) (pv 4) rfl)
      (pss_cons (ps_dput (hu_of hr) (pv 0) (pe_op op_add (pv 6) pe_int) (pv 5) rfl)
      (pss_one (ps_dput (hu_of hr) (pv 0) (pe_def (ok_followed_key T) hr (pa_cons (pv 1) pa_nil)) pe_int rfl))))))), ?_⟩)
  · obtain ⟨a, kvs, b, x, y, u, v, rfl, _⟩ := h; rfl
  · obtain ⟨a, kvs, b, x, y, u, v, rfl, ha, hl, q⟩ := h
    have l1 := putK_le kvs (ik (4 * b)) (.int x)
    generalize e1 : putK kvs (ik (4 * b)) (.int x) = k1 at l1
    have l2 := putK_le k1 (ik (4 * b + 1)) (.int y)
    generalize e2 : putK k1 (ik (4 * b + 1)) (.int y) = k2 at l2
    have l3 := putK_le k2 (ik (4 * b + 2)) (.int u)
    generalize e3 : putK k2 (ik (4 * b + 2)) (.int u) = k3 at l3
    have l4 := putK_le k3 (ik (4 * b + 3)) (.int v)
    generalize e4 : putK k3 (ik (4 * b + 3)) (.int v) = k4 at l4
    refine ⟨_, rfl, _, _, rfl, rfl, .inl ⟨by decide, by decide⟩, ?_⟩
    refine ⟨_, rfl, _, rfl, _, rfl, a, _, rfl, DPut.k (k := ik (4 * b)) ha (sizeL (by omega)), ?_⟩
    rw [e1]
    refine ⟨_, rfl, _, rfl, _, rfl, _, _, rfl, rfl, a, _, rfl, DPut.k (k := ik (4 * b + 1)) upd_same (sizeL (by omega)), ?_⟩
    rw [upd_upd, e2]
    refine ⟨_, rfl, _, rfl, _, rfl, _, _, rfl, rfl, a, _, rfl, DPut.k (k := ik (4 * b + 2)) upd_same (sizeL (by omega)), ?_⟩
    rw [upd_upd, e3]
    refine ⟨_, rfl, _, rfl, _, rfl, _, _, rfl, rfl, a, _, rfl, DPut.k (k := ik (4 * b + 3)) upd_same (sizeL (by omega)), ?_⟩
    rw [upd_upd, e4]
    refine ⟨_, rfl, _, rfl, b, rfl, a, _, rfl, DPut.k (k := ik (1000 + b)) upd_same (sizeL (by omega)), ?_⟩
    rw [upd_upd]
    unfold put5 at q
    rw [e1, e2, e3, e4] at q
    exact q
end MN
set_option Elab.async false
set_option maxRecDepth 100000
set_option maxHeartbeats 2000000
namespace MN
open PySem PySem.Spec PyProof.Rows L2
variable {P : Program} {w : World} {K : PySem.W.Frag} {mg : Str → Option Value} {base : Heap} {Z : Cs}
def putAx (kvs : List (Key × V)) (pk : Int) (p : Int × Int) : List (Key × V) := putK (putK kvs (ik pk) (.int p.1)) (ik (pk + 2)) (.int p.2)
def spFollowAxis : Sp := fun vs H Q _ => ∃ (a : Addr) (kvs : List (Key × V)) (pk push x v : Int), vs = [.ref a, .int pk, .int push] ∧ H a = some (.dK kvs) ∧ valV kvs (ik pk) = some (.int x) ∧ valV kvs (ik (pk + 2)) = some (.int v) ∧ kvs.length < 100000 ∧
  Q .non (upd H a (.dK (putAx kvs pk (Vbwsah.step1 x v push))))
theorem clamp_eq (z : Int) : (if (if z < 20 then z else 20) > -20 then (if z < 20 then z else 20) else (-20 : Int)) = Vbwsah.clamp (-20) 20 z := by
  unfold Vbwsah.clamp
  repeat' split
  all_goals omega
theorem ok_follow_axis (T : Txt K mg Z) : DefOk P w K mg base 1 "follow_axis" ["world", "place_key", "push"] spFollowAxis := by
  refine T.f_follow_axis.ok sc_follow_axis (fun vs H Q E h => ?_) (fun f cdv A outer s H vs Q E hr h => ⟨_, (pss_cons (ps_set (i := 3) sc_follow_axis.nd rfl (Or.inl rfl) (pe_op op_add (pv 1) pe_int))
      (pss_cons (ps_set (i := 4) sc_follow_axis.nd rfl (Or.inl rfl) (pe_callB (call_max2 rfl) (by rfl) T.n_max (by decide +kernel) (pa_cons (pe_un un_neg (pe_gc T.c_FASTEST)) (pa_cons (pe_callB (call_min2 rfl) (by rfl) T.n_min (by decide +kernel) (pa_cons (pe_gc T.c_FASTEST) (pa_cons (pe_op op_add (pe_dget (hu_of hr) (pv 0) (pv 3) (fun _ _ => rfl)) (pv 2)) pa_nil))) pa_nil))))
      (pss_cons (ps_set (i := 5) sc_follow_axis.nd rfl (Or.inl rfl) (pe_op op_add (pe_dget (hu_of hr) (pv 0) (pv 1) (fun _ _ => rfl)) (pv 4)))
      (pss_cons (ps_if (pt_cmpR op_lt (pv 5) pe_int (nomark _)) (pss_cons (ps_set (i := 5) sc_follow_axis.nd rfl (Or.inl rfl) (pe_un un_neg (pv 5)))
      (pss_one (ps_set (i := 4) sc_follow_axis.nd rfl (Or.inl rfl) (pe_un un_neg (pv 4))))) (pss_one (ps_if (pt_cmpR op_gt (pv 5) (pe_gc T.c_FURTHEST) (nomark _)) (pss_cons (ps_set (i := 5) sc_follow_axis.nd rfl (Or.inl rfl) (pe_op op_sub (pe_op op_mul pe_int (pe_gc T.c_FURTHEST)) (pv 5)))
      (pss_one (ps_set (i := 4) sc_follow_axis.nd rfl (Or.inl rfl) (pe_un un_neg (pv 4))))) pss_nil)))
      (pss_cons (ps_dput (hu_of hr) (pv 0) (pv 1) (pv 5) rfl)
      (pss_one (ps_dput (hu_of hr) (pv 0) (pv 3) (pv 4) rfl))))))), ?_⟩)
  · obtain ⟨a, kvs, pk, push, x, v, rfl, _⟩ := h; rfl
  · obtain ⟨a, kvs, pk, push, x, v, rfl, ha, hx, hv, hl, q⟩ := h
    refine ⟨_, rfl, _, _, rfl, rfl, ?_⟩
    refine ⟨_, rfl, _, rfl, _, rfl, a, .int v, rfl, ?_, _, rfl, _, _, rfl, rfl, _, _, rfl, _, _, rfl, ?_⟩
    · rw [← hv]; exact DGet.k (k := ik (pk + 2)) ha
    rw [clamp_eq]
    generalize eu : Vbwsah.clamp (-20) 20 (v + push) = u
    have es : Vbwsah.step1 x v push = if x + u < 0 then (-(x + u), -u) else if 1000 < x + u then (2 * 1000 - (x + u), -u) else (x + u, u) := by
      unfold Vbwsah.step1 Vbwsah.FAST Vbwsah.ROOM
      dsimp only
      rw [eu]
    have fin : ∀ p r : Int, Vbwsah.step1 x v push = (p, r) → sDPut (tVar 0) (tVar 1) (tVar 5) { nx := sDPut (tVar 0) (tVar 3) (tVar 4) { nx := fun _ H' => Q .non H', rt := Q }, rt := Q } [some (.ref a), some (.int pk), some (.int push), some (.int (pk + 2)), some (.int r), some (.int p)] H := by
      intro p r e
      rw [e] at q
      have l1 := putK_le kvs (ik pk) (.int p)
      refine ⟨_, rfl, _, rfl, _, rfl, a, _, rfl, DPut.k (k := ik pk) ha (sizeL (by omega)), ?_⟩
      refine ⟨_, rfl, _, rfl, _, rfl, a, _, rfl, DPut.k (k := ik (pk + 2)) upd_same (sizeL (by omega)), ?_⟩
      rw [upd_upd]
      exact q
    refine ⟨_, rfl, _, rfl, a, .int x, rfl, ?_, _, rfl, _, _, rfl, rfl, ?_⟩
    · rw [← hx]; exact DGet.k (k := ik pk) ha
    refine ⟨_, rfl, _, _, rfl, rfl, _, rfl, ?_⟩
    by_cases c : x + u < 0
    · rw [decide_eq_true c]
      refine iteT ⟨_, rfl, _, rfl, _, rfl, _, rfl, ?_⟩
      rw [if_pos c] at es
      exact fin _ _ es
    · rw [decide_eq_false c]
      rw [if_neg c] at es
      refine iteF ⟨_, rfl, _, _, rfl, rfl, _, rfl, ?_⟩
      by_cases c2 : (1000 : Int) < x + u
      · rw [decide_eq_true c2]
        rw [if_pos c2] at es
        refine iteT ⟨_, _, rfl, rfl, .inl ⟨by decide, by decide⟩, _, rfl, _, _, rfl, rfl, _, rfl, _, rfl, ?_⟩
        exact fin _ _ es
      · rw [decide_eq_false c2]
        rw [if_neg c2] at es
        refine iteF ?_
        exact fin _ _ es
/-- a body follows an input, on the pairs -/
def movedK (kvs : List (Key × V)) (b : Int) (x y u v n : Int) (ax ay : Int) : List (Key × V) := putK (putAx (putAx kvs (4 * b) (Vbwsah.step1 x u ax)) (4 * b + 1) (Vbwsah.step1 y v ay)) (ik (1000 + b)) (.int (n + 1))
def spFollow : Sp := fun vs H Q _ => ∃ (a : Addr) (kvs : List (Key × V)) (b ax ay x y u v n : Int), vs = [.ref a, .int b, .int ax, .int ay] ∧ H a = some (.dK kvs) ∧ valV kvs (ik (4 * b)) = some (.int x) ∧ valV kvs (ik (4 * b + 1)) = some (.int y) ∧
  valV kvs (ik (4 * b + 2)) = some (.int u) ∧ valV kvs (ik (4 * b + 3)) = some (.int v) ∧ valV kvs (ik (1000 + b)) = some (.int n) ∧ b < 200 ∧ kvs.length < 10000 ∧
  Q .non (upd H a (.dK (movedK kvs b x y u v n ax ay)))
theorem ik_ne {i j : Int} (h : i ≠ j) : ik i ≠ ik j := fun e => h (Sum.inl.inj e)
theorem valV_putI (kvs : List (Key × V)) (i j : Int) (y : V) : valV (putK kvs (ik i) y) (ik j) = if j = i then some y else valV kvs (ik j) := by
  rw [valV_put]
  by_cases e : j = i
  · subst e; rw [if_pos rfl, if_pos rfl]
  · rw [if_neg e, if_neg (ik_ne e)]
theorem valV_ax (kvs : List (Key × V)) (pk j : Int) (p : Int × Int) : valV (putAx kvs pk p) (ik j) = if j = pk + 2 then some (.int p.2) else if j = pk then some (.int p.1) else valV kvs (ik j) := by
  unfold putAx
  rw [valV_putI, valV_putI]
theorem ok_follow (T : Txt K mg Z) : DefOk P w K mg base 2 "follow" ["world", "body", "ax", "ay"] spFollow := by
  refine T.f_follow.ok sc_follow (fun vs H Q E h => ?_) (fun f cdv A outer s H vs Q E hr h => ⟨_, (pss_cons (ps_set (i := 4) sc_follow.nd rfl (Or.inl rfl) (pe_op op_mul (pe_gc T.c_KEYS_OF_A_BODY) (pv 1)))
      (pss_cons (ps_expr (pe_def (ok_follow_axis T) hr (pa_cons (pv 0) (pa_cons (pv 4) (pa_cons (pv 2) pa_nil)))))
      (pss_cons (ps_expr (pe_def (ok_follow_axis T) hr (pa_cons (pv 0) (pa_cons (pe_op op_add (pv 4) pe_int) (pa_cons (pv 3) pa_nil)))))
      (pss_one (ps_daug (hu_of hr) (pv 0) (pe_def (ok_followed_key T) hr (pa_cons (pv 1) pa_nil)) pe_int in_add (fun _ _ _ => rfl)))))), ?_⟩)
  · obtain ⟨a, kvs, b, ax, ay, x, y, u, v, n, rfl, _⟩ := h; rfl
  · obtain ⟨a, kvs, b, ax, ay, x, y, u, v, n, rfl, ha, hx, hy, hu, hv, hn, h2, hl, q⟩ := h
    refine ⟨_, rfl, _, _, rfl, rfl, .inl ⟨by decide, by decide⟩, ?_⟩
    refine ⟨_, rfl, _, rfl, _, rfl, a, kvs, 4 * b, ax, x, u, rfl, ha, hx, hu, by omega, ?_⟩
    have l1 : (putAx kvs (4 * b) (Vbwsah.step1 x u ax)).length ≤ kvs.length + 2 := Nat.le_trans (putK_le _ _ _) (Nat.succ_le_succ (putK_le _ _ _))
    refine ⟨_, rfl, _, rfl, _, _, rfl, rfl, _, rfl, a, putAx kvs (4 * b) (Vbwsah.step1 x u ax), 4 * b + 1, ay, y, v, rfl, upd_same, ?_, ?_, by omega, ?_⟩
    · rw [valV_ax, if_neg (by omega), if_neg (by omega)]; exact hy
    · rw [valV_ax, if_neg (by omega), if_neg (by omega), show 4 * b + 1 + 2 = 4 * b + 3 by omega]; exact hv
    have l2 : (putAx (putAx kvs (4 * b) (Vbwsah.step1 x u ax)) (4 * b + 1) (Vbwsah.step1 y v ay)).length ≤ kvs.length + 4 := Nat.le_trans (Nat.le_trans (putK_le _ _ _) (Nat.succ_le_succ (putK_le _ _ _))) (by omega)
    rw [upd_upd]
    generalize ek : putAx (putAx kvs (4 * b) (Vbwsah.step1 x u ax)) (4 * b + 1) (Vbwsah.step1 y v ay) = k2 at l2
    have hn2 : valV k2 (ik (1000 + b)) = some (.int n) := by
      rw [← ek, valV_ax, if_neg (by omega), if_neg (by omega), valV_ax, if_neg (by omega), if_neg (by omega)]; exact hn
    refine ⟨_, rfl, _, rfl, b, rfl, a, .int n, rfl, ?_, _, _, rfl, rfl, _, DPut.k (k := ik (1000 + b)) upd_same (sizeL (by omega)), ?_⟩
    · rw [← hn2]; exact DGet.k (k := ik (1000 + b)) upd_same
    rw [upd_upd]
    unfold movedK at q
    rw [ek] at q
    exact q
end MN
set_option Elab.async false
set_option maxRecDepth 100000
set_option maxHeartbeats 2000000
namespace MN
open PySem PySem.Spec PyProof.Rows L2
/-! how a world lies in a dict's pairs -/
structure RepW (kvs : List (Key × V)) (t : Vbwsae.T Int) : Prop where
  wf : WF t
  nd : (kvs.map (·.1)).Nodup
  int : ∀ p ∈ kvs, ∃ k : Nat, p.1 = ik (k : Int)
  get : ∀ k : Nat, valV kvs (ik (k : Int)) = (Vbwsae.get t k).map V.int
theorem valV_mem {kvs : List (Key × V)} {k : Key} {v : V} (h : valV kvs k = some v) : (k, v) ∈ kvs := by
  unfold valV at h
  cases e : kvs.find? (fun kv => decide (kv.1 = k)) with
  | none => rw [e] at h; cases h
  | some p =>
    rw [e] at h
    have h1 := List.find?_some e
    have h2 := List.mem_of_find?_eq_some e
    have e1 : p.1 = k := of_decide_eq_true h1
    have e2 : p.2 = v := Option.some.inj h
    rw [← e1, ← e2]; exact h2
theorem valV_none {kvs : List (Key × V)} {k : Key} : valV kvs k = none ↔ k ∉ kvs.map (·.1) := by
  constructor
  · exact valV_not
  · intro h
    cases e : valV kvs k with
    | none => rfl
    | some v => exact absurd (valV_in e) h
theorem RepW.neg {kvs : List (Key × V)} {t : Vbwsae.T Int} (r : RepW kvs t) {j : Int} (h : j < 0) : valV kvs (ik j) = none := by
  rw [valV_none]
  intro m
  obtain ⟨p, hp, e⟩ := List.mem_map.mp m
  obtain ⟨k, ek⟩ := r.int p hp
  rw [ek] at e
  have := Sum.inl.inj e
  omega
theorem RepW.at {kvs : List (Key × V)} {t : Vbwsae.T Int} (r : RepW kvs t) (j : Int) : valV kvs (ik j) = if j < 0 then none else (Vbwsae.get t j.toNat).map V.int := by
  by_cases h : j < 0
  · rw [if_pos h]; exact r.neg h
  · rw [if_neg h, ← r.get j.toNat]
    congr 2
    omega
theorem RepW.ext {kvs : List (Key × V)} {t u : Vbwsae.T Int} (r : RepW kvs t) (wu : WF u) (e : ∀ k, Vbwsae.get u k = Vbwsae.get t k) : RepW kvs u := ⟨wu, r.nd, r.int, fun k => by rw [e]; exact r.get k⟩
theorem RepW.nil : RepW [] .none := ⟨trivial, List.nodup_nil, fun p hp => absurd hp (by simp), fun k => rfl⟩
theorem nd_put {kvs : List (Key × V)} {k : Key} {v : V} (h : (kvs.map (·.1)).Nodup) : ((putK kvs k v).map (·.1)).Nodup := by
  cases e : valV kvs k with
  | none => exact nd_putK v h e
  | some x =>
    unfold putK
    rw [valV_any, e]
    simp only [Option.isSome_some, if_true]
    rw [List.map_map]
    have : ((fun x : Key × V => x.1) ∘ fun kv => if kv.1 = k then (kv.1, v) else kv) = fun x => x.1 := by
      funext p
      show (if p.1 = k then (p.1, v) else p).1 = p.1
      split <;> rfl
    rw [this]; exact h
theorem putK_mem {kvs : List (Key × V)} {k : Key} {v : V} {p : Key × V} (h : p ∈ putK kvs k v) : p.1 = k ∨ p ∈ kvs := by
  unfold putK at h
  split at h
  · obtain ⟨q, hq, e⟩ := List.mem_map.mp h
    split at e
    · rename_i c
      rw [← e]; exact Or.inl c
    · rw [← e]; exact Or.inr hq
  · rcases List.mem_append.mp h with q | q
    · exact Or.inr q
    · rw [List.mem_singleton.mp q]; exact Or.inl rfl
theorem RepW.put {kvs : List (Key × V)} {t : Vbwsae.T Int} (r : RepW kvs t) {k : Nat} (hk : k < 2 ^ 40) (v : Int) : RepW (putK kvs (ik (k : Int)) (.int v)) (Vbwsae.put k v t) := by
  refine ⟨put_wf hk r.wf, nd_put r.nd, fun p hp => ?_, fun j => ?_⟩
  · rcases putK_mem hp with e | e
    · exact ⟨k, e⟩
    · exact r.int p e
  · rw [valV_putI, get_put hk v r.wf]
    by_cases e : j = k
    · rw [if_pos e, if_pos (by rw [e])]; rfl
    · rw [if_neg e, if_neg (by omega)]; exact r.get j
theorem valV_drop (kvs : List (Key × V)) (k j : Key) : valV (dropK kvs k) j = if j = k then none else valV kvs j := by
  induction kvs with
  | nil => simp [dropK, valV]
  | cons p r ih =>
    by_cases e : p.1 = k
    · rw [dropK_pos e, ih]
      by_cases ej : j = k
      · rw [if_pos ej, if_pos ej]
      · rw [if_neg ej, if_neg ej, valV_neg (fun z => ej (z.symm.trans e))]
    · rw [dropK_neg e]
      by_cases ej : p.1 = j
      · rw [valV_pos ej, valV_pos ej, if_neg (fun z => e (ej.trans z))]
      · rw [valV_neg ej, valV_neg ej, ih]
theorem RepW.drop {kvs : List (Key × V)} {t : Vbwsae.T Int} (r : RepW kvs t) (k : Nat) : RepW (dropK kvs (ik (k : Int))) (Vbwsae.del k t) := by
  refine ⟨del_wf r.wf, nd_dropK r.nd, fun p hp => r.int p (dropK_mem hp), fun j => ?_⟩
  rw [valV_drop, get_del r.wf]
  by_cases e : j = k
  · rw [if_pos e, if_pos (by rw [e])]; rfl
  · rw [if_neg e, if_neg (ik_ne (by omega))]; exact r.get j
/-- the keys as numbers -/
def nk (t : Vbwsae.T Int) : List Int := (keys t).map fun (k : Nat) => (k : Int)
theorem RepW.perm {kvs : List (Key × V)} {t : Vbwsae.T Int} (r : RepW kvs t) : (kvs.map (·.1)).Perm ((nk t).map ik) := by
  have hnd : ((nk t).map ik).Nodup := by
    unfold nk
    rw [List.map_map]
    refine List.Pairwise.map _ (fun a b h => ?_) (keys_sorted r.wf)
    have h' : a < b := h
    show ik (a : Int) ≠ ik (b : Int)
    exact ik_ne (by omega)
  rw [List.perm_ext_iff_of_nodup r.nd hnd]
  intro x
  constructor
  · intro h
    obtain ⟨p, hp, e⟩ := List.mem_map.mp h
    obtain ⟨k, ek⟩ := r.int p hp
    have hm : ik (k : Int) ∈ kvs.map (·.1) := by rw [← ek]; exact List.mem_map.mpr ⟨p, hp, rfl⟩
    have hv : valV kvs (ik (k : Int)) ≠ none := fun z => valV_not z hm
    rw [r.get] at hv
    refine List.mem_map.mpr ⟨(k : Int), List.mem_map.mpr ⟨k, (mem_keys r.wf).mpr ?_, rfl⟩, by rw [← e, ek]⟩
    cases q : Vbwsae.get t k with
    | none => rw [q] at hv; exact absurd rfl hv
    | some v => rfl
  · intro h
    obtain ⟨j, hj, e⟩ := List.mem_map.mp h
    obtain ⟨k, hk, ej⟩ := List.mem_map.mp hj
    rw [← e, ← ej]
    obtain ⟨v, ev⟩ := Option.isSome_iff_exists.mp ((mem_keys r.wf).mp hk)
    exact valV_in (v := .int v) (by rw [r.get, ev]; rfl)
theorem RepW.len {kvs : List (Key × V)} {t : Vbwsae.T Int} (r : RepW kvs t) : kvs.length = Vbwsae.size t := by
  have := r.perm.length_eq
  rw [List.length_map, List.length_map] at this
  rw [this, size_pairs]
  unfold nk keys
  rw [List.length_map, List.length_map]
/-- the keys in the dict's own order -/
theorem RepW.keysI {kvs : List (Key × V)} {t : Vbwsae.T Int} (r : RepW kvs t) : ∃ ks : List Int, kvs.map (·.1) = ks.map Sum.inl ∧ ks.Perm (nk t) ∧ ks.length = Vbwsae.size t := by
  have h : ∃ ks : List Int, kvs.map (·.1) = ks.map Sum.inl := by
    have hi := r.int
    clear r
    induction kvs with
    | nil => exact ⟨[], rfl⟩
    | cons p l ih =>
      obtain ⟨ks, e⟩ := ih fun q hq => hi q (List.mem_cons_of_mem _ hq)
      obtain ⟨k, ek⟩ := hi p List.mem_cons_self
      exact ⟨(k : Int) :: ks, by rw [List.map_cons, List.map_cons, e, ek]; rfl⟩
  obtain ⟨ks, e⟩ := h
  have hp := r.perm
  rw [e] at hp
  have hp2 : ks.Perm (nk t) := by
    have inj : ∀ {l m : List Int}, (l.map Sum.inl : List Key).Perm (m.map ik) → l.Perm m := fun {l m} h => by
      have h2 := h.map (fun k : Key => match k with | .inl i => i | .inr _ => 0)
      rw [List.map_map, List.map_map] at h2
      have e1 : ((fun k : Key => match k with | .inl i => i | .inr _ => (0 : Int)) ∘ Sum.inl) = id := rfl
      have e2 : ((fun k : Key => match k with | .inl i => i | .inr _ => (0 : Int)) ∘ ik) = id := rfl
      rw [e1, e2, List.map_id, List.map_id] at h2
      exact h2
    exact inj hp
  refine ⟨ks, e, hp2, ?_⟩
  have := congrArg List.length e
  rw [List.length_map, List.length_map] at this
  rw [← this]; exact r.len
theorem nk_sorted {t : Vbwsae.T Int} (w : WF t) : (nk t).Pairwise (· < ·) := by
  unfold nk
  refine List.Pairwise.map _ (fun a b h => ?_) (keys_sorted w)
  have h' : a < b := h
  show (a : Int) < (b : Int)
  omega
/-- two rising rows of numbers with the same members -/
theorem sorted_ext : ∀ {a b : List Int}, a.Pairwise (· < ·) → b.Pairwise (· < ·) → (∀ x, x ∈ a ↔ x ∈ b) → a = b
  | [], [], _, _, _ => rfl
  | [], q :: b, _, _, h => absurd ((h q).mpr List.mem_cons_self) (by simp)
  | p :: a, [], _, _, h => absurd ((h p).mp List.mem_cons_self) (by simp)
  | p :: a, q :: b, ha, hb, h => by
    rw [List.pairwise_cons] at ha hb
    have e : p = q := by
      rcases List.mem_cons.mp ((h p).mp List.mem_cons_self) with e | e
      · exact e
      · rcases List.mem_cons.mp ((h q).mpr List.mem_cons_self) with e' | e'
        · exact e'.symm
        · have h1 := ha.1 q e'
          have h2 := hb.1 p e
          omega
    subst e
    congr 1
    refine sorted_ext ha.2 hb.2 fun x => ?_
    constructor
    · intro hx
      rcases List.mem_cons.mp ((h x).mp (List.mem_cons_of_mem _ hx)) with e | e
      · have := ha.1 x hx; omega
      · exact e
    · intro hx
      rcases List.mem_cons.mp ((h x).mpr (List.mem_cons_of_mem _ hx)) with e | e
      · have := hb.1 x hx; omega
      · exact e
/-- a body's stores -/
theorem RepW.moved {kvs : List (Key × V)} {t : Vbwsae.T Int} (r : RepW kvs t) {b : Nat} (hb : b < 8) {x y u v n : Int} (ex : Vbwsae.get t (4 * b) = some x) (ey : Vbwsae.get t (4 * b + 1) = some y) (eu : Vbwsae.get t (4 * b + 2) = some u) (ev : Vbwsae.get t (4 * b + 3) = some v) (en : Vbwsae.get t (1000 + b) = some n) (i : Vbwsah.Input) :
    RepW (movedK kvs (b : Int) x y u v n i.ax i.ay) (Vbwsah.moved t b i) := by
  have e1 : (4 * (b : Int)) = ((4 * b : Nat) : Int) := by omega
  have e2 : (4 * (b : Int)) + 2 = ((4 * b + 2 : Nat) : Int) := by omega
  have e3 : (4 * (b : Int)) + 1 = ((4 * b + 1 : Nat) : Int) := by omega
  have e4 : (4 * (b : Int)) + 1 + 2 = ((4 * b + 3 : Nat) : Int) := by omega
  have e5 : 1000 + (b : Int) = ((1000 + b : Nat) : Int) := by omega
  have q : RepW (movedK kvs (b : Int) x y u v n i.ax i.ay) (Vbwsae.put (1000 + b) (n + 1) (Vbwsae.put (4 * b + 3) (Vbwsah.step1 y v i.ay).2 (Vbwsae.put (4 * b + 1) (Vbwsah.step1 y v i.ay).1 (Vbwsae.put (4 * b + 2) (Vbwsah.step1 x u i.ax).2 (Vbwsae.put (4 * b) (Vbwsah.step1 x u i.ax).1 t))))) := by
    unfold movedK putAx
    rw [e4, e3, e2, e1, e5]
    exact ((((r.put (by omega) _).put (by omega) _).put (by omega) _).put (by omega) _).put (by omega) _
  refine q.ext ?_ fun k => ?_
  · unfold Vbwsah.moved
    exact wf_put5 r.wf hb _ _ _ _ _
  · rw [moved_get r.wf hb i ex ey eu ev en]
    have w0 := r.wf
    have w1 := put_wf (k := 4 * b) (by omega) (x := (Vbwsah.step1 x u i.ax).1) w0
    have w2 := put_wf (k := 4 * b + 2) (by omega) (x := (Vbwsah.step1 x u i.ax).2) w1
    have w3 := put_wf (k := 4 * b + 1) (by omega) (x := (Vbwsah.step1 y v i.ay).1) w2
    have w4 := put_wf (k := 4 * b + 3) (by omega) (x := (Vbwsah.step1 y v i.ay).2) w3
    rw [get_put (by omega) _ w4, get_put (by omega) _ w3, get_put (by omega) _ w2, get_put (by omega) _ w1, get_put (by omega) _ w0]
    by_cases c1 : k = 1000 + b
    · rw [if_pos c1, if_pos c1]
    · rw [if_neg c1, if_neg c1]
      by_cases c2 : k = 4 * b + 3
      · rw [if_pos c2, if_pos c2]
      · rw [if_neg c2, if_neg c2]
        by_cases c3 : k = 4 * b + 1
        · simp only [if_pos c3, if_neg (show ¬ k = 4 * b + 2 by omega)]
        · simp only [if_neg c3]
theorem RepW.put5 {kvs : List (Key × V)} {t : Vbwsae.T Int} (r : RepW kvs t) {b : Nat} (hb : b < 8) (x y u v : Int) :
    RepW (put5 kvs (b : Int) x y u v) (Vbwsae.put (Vbwsah.countKey b) 0 (Vbwsae.put (Vbwsah.keyOf b 3) v (Vbwsae.put (Vbwsah.keyOf b 2) u (Vbwsae.put (Vbwsah.keyOf b 1) y (Vbwsae.put (Vbwsah.keyOf b 0) x t))))) := by
  unfold MN.put5 Vbwsah.countKey Vbwsah.keyOf
  have e1 : (4 * (b : Int)) = ((4 * b + 0 : Nat) : Int) := by omega
  have e2 : (4 * (b : Int)) + 2 = ((4 * b + 2 : Nat) : Int) := by omega
  have e3 : (4 * (b : Int)) + 1 = ((4 * b + 1 : Nat) : Int) := by omega
  have e4 : (4 * (b : Int)) + 3 = ((4 * b + 3 : Nat) : Int) := by omega
  have e5 : 1000 + (b : Int) = ((1000 + b : Nat) : Int) := by omega
  rw [e4, e3, e2, e1, e5]
  exact ((((r.put (by omega) _).put (by omega) _).put (by omega) _).put (by omega) _).put (by omega) _
end MN
set_option Elab.async false
set_option maxRecDepth 100000
set_option maxHeartbeats 2000000
namespace MN
open PySem PySem.Spec PyProof.Rows L2
open Vbwsae (Change)
variable {P : Program} {w : World} {K : PySem.W.Frag} {mg : Str → Option Value} {base : Heap} {Z : Cs}
def optV (o : Option Int) : V := (o.map V.int).getD .non
/-- changes as a list of tuples -/
def ChgAt (H : Hp) (r : Addr) (c : Change Int) : Prop := H r = some (.tup [.int (c.key : Int), optV c.old, optV c.new])
def ChgsAt (H : Hp) (p : Addr) (ds : List (Change Int)) : Prop := ∃ rs : List Addr, H p = some (.lst (rs.map V.ref)) ∧ Paired (ChgAt H) rs ds
theorem ChgsAt.same {H H' : Hp} {p : Addr} {ds : List (Change Int)} (h : ChgsAt H p ds) (s : Same H H') : ChgsAt H' p ds := by
  obtain ⟨rs, e, q⟩ := h
  exact ⟨rs, s _ _ e, Paired.mapP q fun r c z => s _ _ z⟩
theorem Same.new {H : Hp} {p : Addr} {o : HO} (h : H p = none) : Same H (upd H p o) := fun b u e => by
  rw [upd_ne (ne_of_none e h)]; exact e
/-- an address that H doesn't track is written -/
theorem Same.mut {H H' : Hp} {p : Addr} {o : HO} (s : Same H H') (h : H p = none) : Same H (upd H' p o) := fun b u e => by
  rw [upd_ne (ne_of_none e h)]; exact s b u e
def spChanges : Sp := fun vs H Q _ => ∃ (a b : Addr) (ka kb : List (Key × V)) (ta tb : Vbwsae.T Int), vs = [.ref a, .ref b] ∧ H a = some (.dK ka) ∧ H b = some (.dK kb) ∧ RepW ka ta ∧ RepW kb tb ∧ Vbwsae.size ta ≤ 200 ∧ Vbwsae.size tb ≤ 200 ∧
  ∀ H' p (rs : List Addr), Same H H' → H p = none → (∀ r ∈ rs, H r = none) → H' p = some (.lst (rs.map V.ref)) → Paired (ChgAt H') rs (Vbwsae.diff Vbwsah.same ta tb) → Q (.ref p) H'
theorem optV_inj {a b : Option Int} : optV a = optV b ↔ a = b := by
  cases a <;> cases b <;> simp [optV]
theorem optV_scal (a b : Option Int) : scal (optV a) (optV b) = true := by
  cases a <;> cases b <;> rfl
theorem Paired.snoc {α β : Type} {F : α → β → Prop} : ∀ {l : List α} {m : List β} {x : α} {y : β}, Paired F l m → F x y → Paired F (l ++ [x]) (m ++ [y])
  | _, _, _, _, .nil, h => .cons h .nil
  | _, _, _, _, .cons r t, h => .cons r (Paired.snoc t h)
theorem Paired.len {α β : Type} {F : α → β → Prop} : ∀ {l : List α} {m : List β}, Paired F l m → l.length = m.length
  | _, _, .nil => rfl
  | _, _, .cons _ t => by rw [List.length_cons, List.length_cons, Paired.len t]
theorem take_snoc {α : Type} {l : List α} {i : Nat} {x : α} (h : l[i]? = some x) : l.take (i + 1) = l.take i ++ [x] := by
  rw [List.take_add_one, h]; rfl
theorem ok_changes_between (T : Txt K mg Z) : DefOk P w K mg base 1 "changes_between" ["before", "after"] spChanges := by
  refine T.f_changes_between.ok sc_changes_between (fun vs H Q E h => ?_) (fun f cdv A outer s H vs Q E hr h => ⟨_, (pss_cons (ps_set (i := 2) sc_changes_between.nd rfl (Or.inl rfl) (pe_lst pa_nil))
      (pss_cons (ps_for PassesOwn.never rfl (pi_list (pe_callB (cr_sortedSetA rfl) (by rfl) T.n_sorted (by decide +kernel) (pa_cons (pe_op op_setOr (pe_callTy cr_setD (by rfl) T.n_set (by decide +kernel) (pa_cons (pv 0) pa_nil)) (pe_callTy cr_setD (by rfl) T.n_set (by decide +kernel) (pa_cons (pv 1) pa_nil))) pa_nil))) (pg_name (i := 3) sc_changes_between.nd rfl (Or.inl rfl)) (pss_cons (ps_set (i := 4) sc_changes_between.nd rfl (Or.inl rfl) (pe_dget1 (hu_of hr) (pv 0) (pv 3) ⟨rfl, rfl, rfl, rfl⟩))
      (pss_cons (ps_set (i := 5) sc_changes_between.nd rfl (Or.inl rfl) (pe_dget1 (hu_of hr) (pv 1) (pv 3) ⟨rfl, rfl, rfl, rfl⟩))
      (pss_one (ps_if (pt_cmpR op_ne (pv 4) (pv 5) (nomark _)) (pss_one (ps_expr (pe_bm PySem.F.plainAttrs_list PySem.F.slot_list_append PySem.F.type_list_append mt_append (pv 2) (pa_cons (pe_tup (pa_cons (pv 3) (pa_cons (pv 4) (pa_cons (pv 5) pa_nil)))) pa_nil)))) pss_nil)))))
      (pss_one (ps_ret (pv 2))))), ?_⟩)
  · obtain ⟨a, b, ka, kb, ta, tb, rfl, _⟩ := h; rfl
  · obtain ⟨a, b, ka, kb, ta, tb, rfl, ha, hb, ra, rb, sa, sb, q⟩ := h
    obtain ⟨ksa, eka, pa, la⟩ := ra.keysI
    obtain ⟨ksb, ekb, pb, lb⟩ := rb.keysI
    refine ⟨by decide, fun C hC => ?_⟩
    have s0 : Same H (upd H C (.lst [])) := Same.new hC
    refine ⟨_, rfl, a, ka, ksa, rfl, .inl (s0 _ _ ha), eka, by omega, fun p1 S1 n1 hp1 hS1 hn1 => ?_⟩
    have s1 := s0.trans (Same.new (o := SetO w p1 S1 n1) hp1)
    refine ⟨_, rfl, b, kb, ksb, rfl, .inl (s1 _ _ hb), ekb, by omega, fun p2 S2 n2 hp2 hS2 hn2 => ?_⟩
    have ne12 : p1 ≠ p2 := ne_of_none (upd_same (H := upd H C (.lst [])) (a := p1) (o := SetO w p1 S1 n1)) hp2
    have s2 := s1.trans (Same.new (o := SetO w p2 S2 n2) hp2)
    refine ⟨p1, p2, S1, S2, n1, n2, rfl, rfl, ne12, ?_, upd_same, by omega, fun p3 U k hp3 hU => ?_⟩
    · rw [upd_ne ne12]; exact upd_same
    refine ⟨p3, U, k, rfl, upd_same, fun ns L hs hm hl hL => ?_⟩
    -- the keys of both, rising
    have memN : ∀ j : Int, j ∈ ns ↔ j ∈ nk ta ∨ j ∈ nk tb := fun j => by
      rw [hm j, hU j, Bool.or_eq_true, hS1 j, hS2 j, pa.mem_iff, pb.mem_iff]
    obtain ⟨ks, hks⟩ : ∃ ks : List Nat, ns = ks.map fun (k : Nat) => (k : Int) := by
      refine ⟨ns.map Int.toNat, ?_⟩
      rw [List.map_map]
      have : ∀ j ∈ ns, ((fun (k : Nat) => (k : Int)) ∘ Int.toNat) j = id j := fun j hj => by
        show ((j.toNat : Nat) : Int) = j
        have : 0 ≤ j := by
          rcases (memN j).mp hj with z | z
          · obtain ⟨x, _, e⟩ := List.mem_map.mp z; omega
          · obtain ⟨x, _, e⟩ := List.mem_map.mp z; omega
        omega
      rw [List.map_congr_left this, List.map_id]
    have sk : ks.Pairwise (· < ·) := by
      rw [hks, List.pairwise_map] at hs
      exact hs.imp fun {x y} h => by omega
    have memK : ∀ j : Nat, j ∈ ks ↔ j ∈ keys ta ∨ j ∈ keys tb := fun j => by
      have h1 := memN (j : Int)
      have hi : ∀ l : List Nat, (j : Int) ∈ l.map (fun (k : Nat) => (k : Int)) ↔ j ∈ l := fun l => by
        rw [List.mem_map]
        constructor
        · rintro ⟨x, hx, e⟩
          have : x = j := by omega
          rw [← this]; exact hx
        · intro h; exact ⟨j, h, rfl⟩
      rw [hks] at h1
      unfold nk at h1
      rw [hi, hi, hi] at h1
      exact h1
    have hdiff := diff_eq ra.wf rb.wf sk fun j hj => (memK j).mpr (hj.imp (mem_keys ra.wf).mpr (mem_keys rb.wf).mpr)
    have hlen : ks.length ≤ 400 := by
      have h1 : ks.length ≤ (keys ta ++ keys tb).length := nodup_len (List.Pairwise.imp (fun {x y} (h : x < y) => by omega) sk) fun x hx => List.mem_append.mpr ((memK x).mp hx)
      rw [List.length_append] at h1
      have h2 : (keys ta).length = Vbwsae.size ta := by rw [size_pairs]; unfold keys; rw [List.length_map]
      have h3 : (keys tb).length = Vbwsae.size tb := by rw [size_pairs]; unfold keys; rw [List.length_map]
      omega
    have s3 := s2.trans (Same.new (o := SetO w p3 U k) hp3)
    have s4 := s3.trans (Same.new (o := .lst (ns.map V.int)) hL)
    have hCL : C ≠ L := by
      intro z
      rw [← z, upd_ne (ne_of_none (h' := hp3) (by rw [upd_ne (ne_of_none (h' := hp2) (by rw [upd_ne (ne_of_none (h' := hp1) upd_same)]; exact upd_same)), upd_ne (ne_of_none (h' := hp1) upd_same)]; exact upd_same)), upd_ne (ne_of_none (h' := hp2) (by rw [upd_ne (ne_of_none (h' := hp1) upd_same)]; exact upd_same)), upd_ne (ne_of_none (h' := hp1) upd_same), upd_same] at hL
      cases hL
    refine ⟨L, rfl, ⟨_, SqL.of upd_same⟩, for_list (K := K) (a := L) (xs := ns.map V.int) (fun i σ H' => ∃ (v3 v4 v5 : Option V) (rs : List Addr), σ = [some (.ref a), some (.ref b), some (.ref C), v3, v4, v5] ∧ Same H H' ∧ H' L = some (.lst (ns.map V.int)) ∧
      H' C = some (.lst (rs.map V.ref)) ∧ Paired (ChgAt H') rs ((ks.take i).filterMap (chg (Vbwsae.get ta) (Vbwsae.get tb))) ∧ ∀ r ∈ rs, H r = none) ⟨none, none, none, [], rfl, s4, upd_same, ?_, .nil, fun r hr => absurd hr (by simp)⟩ (fun i σ H' _ ⟨_, _, _, _, _, _, h, _⟩ => SqL.of h) ?_ ?_⟩
    · rw [upd_ne hCL, upd_ne (ne_of_none (h' := hp3) (by rw [upd_ne (ne_of_none (h' := hp2) (by rw [upd_ne (ne_of_none (h' := hp1) upd_same)]; exact upd_same)), upd_ne (ne_of_none (h' := hp1) upd_same)]; exact upd_same)), upd_ne (ne_of_none (h' := hp2) (by rw [upd_ne (ne_of_none (h' := hp1) upd_same)]; exact upd_same)), upd_ne (ne_of_none (h' := hp1) upd_same), upd_same]
      rfl
    · rintro i x σ H' hi ⟨v3, v4, v5, rs, rfl, sm, hL', hC', pr, fr⟩
      have hi' : ∃ j : Nat, ks[i]? = some j ∧ x = V.int (j : Int) := by
        rw [hks, List.map_map, List.getElem?_map] at hi
        cases e : ks[i]? with
        | none => rw [e] at hi; cases hi
        | some j => rw [e] at hi; exact ⟨j, rfl, (Option.some.inj hi).symm⟩
      obtain ⟨j, hj, rfl⟩ := hi'
      have ha' := sm _ _ ha
      have hb' := sm _ _ hb
      have ga : (valV ka (ik (j : Int))).getD .non = optV (Vbwsae.get ta j) := by rw [ra.get]; rfl
      have gb : (valV kb (ik (j : Int))).getD .non = optV (Vbwsae.get tb j) := by rw [rb.get]; rfl
      refine ⟨_, rfl, a, rfl, .inl ⟨ka, .inl ha'⟩, _, rfl, _, DGet.k (k := ik (j : Int)) ha', ?_⟩
      refine ⟨_, rfl, b, rfl, .inl ⟨kb, .inl hb'⟩, _, rfl, _, DGet.k (k := ik (j : Int)) hb', ?_⟩
      rw [ga, gb]
      have ht := take_snoc hj
      refine ⟨_, rfl, _, rfl, optV_scal _ _, _, rfl, ?_⟩
      by_cases c : Vbwsae.get ta j = Vbwsae.get tb j
      · rw [decide_eq_true (optV_inj.mpr c)]
        refine iteF ⟨_, _, _, rs, rfl, sm, hL', hC', ?_⟩
        rw [ht, List.filterMap_append]
        have e0 : [j].filterMap (chg (Vbwsae.get ta) (Vbwsae.get tb)) = [] := by simp [chg, c]
        rw [e0, List.append_nil]
        exact ⟨pr, fr⟩
      · rw [decide_eq_false (fun z => c (optV_inj.mp z))]
        have hrl : rs.length ≤ 400 := by
          rw [Paired.len pr]
          refine Nat.le_trans (List.length_filterMap_le _ _) ?_
          rw [List.length_take]; omega
        refine iteT ⟨_, rfl, .inl ⟨rfl, _, SqL.of hC'⟩, _, rfl, _, rfl, _, rfl, by show 3 ≤ sizeLine; decide, fun t ht' => ⟨C, rs.map V.ref, _, rfl, rfl, ?_, sizeL (by rw [List.length_map]; omega), ?_⟩⟩
        · rw [upd_ne (ne_of_none hC' ht')]; exact hC'
        have sm' : Same H (upd (upd H' t (.tup [.int (j : Int), optV (Vbwsae.get ta j), optV (Vbwsae.get tb j)])) C (.lst (rs.map V.ref ++ [.ref t]))) := MN.Same.mut (sm.trans (Same.new ht')) hC
        have htC : t ≠ C := fun z => by rw [z, hC'] at ht'; cases ht'
        refine ⟨_, _, _, rs ++ [t], rfl, sm', ?_, ?_, ?_, fun r hr => ?_⟩
        · rw [upd_ne (Ne.symm hCL), upd_ne (ne_of_none hL' ht')]; exact hL'
        · rw [upd_same, List.map_append]; rfl
        · rw [ht, List.filterMap_append]
          have e0 : [j].filterMap (chg (Vbwsae.get ta) (Vbwsae.get tb)) = [⟨j, Vbwsae.get ta j, Vbwsae.get tb j⟩] := by simp [chg, c]
          rw [e0]
          refine Paired.snoc (Paired.mapP pr fun r d z => ?_) ?_
          · have hrC : r ≠ C := fun y => by
              have z' : H' r = some (.tup _) := z
              rw [y, hC'] at z'; cases z'
            show upd _ C _ r = _
            rw [upd_ne hrC, upd_ne (ne_of_none z ht')]
            exact z
          · show upd _ C _ t = _
            rw [upd_ne htC, upd_same]
        · rcases List.mem_append.mp hr with z | z
          · exact fr r z
          · rw [List.mem_singleton.mp z]; exact sm.free ht'
    · rintro σ H' ⟨v3, v4, v5, rs, rfl, sm, hL', hC', pr, fr⟩
      refine ⟨_, rfl, q H' C rs sm hC fr hC' ?_⟩
      rw [hks, List.length_map, List.length_map, List.take_length] at pr
      rw [hdiff]; exact pr
end MN
set_option Elab.async false
set_option maxRecDepth 100000
set_option maxHeartbeats 2000000
namespace MN
open PySem PySem.Spec PyProof.Rows L2
open Vbwsae (Change)
variable {P : Program} {w : World} {K : PySem.W.Frag} {mg : Str → Option Value} {base : Heap} {Z : Cs}
theorem change_get {c : Change Int} {t : Vbwsae.T Int} (w : WF t) (hk : c.key < 2 ^ 40) (j : Nat) : Vbwsae.get (Vbwsae.change c t) j = if j = c.key then c.new else Vbwsae.get t j := by
  unfold Vbwsae.change
  cases c.new with
  | none => exact get_del w j
  | some x => exact get_put hk x w j
theorem change_wf {c : Change Int} {t : Vbwsae.T Int} (w : WF t) (hk : c.key < 2 ^ 40) : WF (Vbwsae.change c t) := by
  unfold Vbwsae.change
  cases c.new with
  | none => exact del_wf w
  | some x => exact put_wf hk w
theorem fold_other {j : Nat} : ∀ (l : List (Change Int)) (t : Vbwsae.T Int), WF t → (∀ c ∈ l, c.key < 2 ^ 40) → (∀ c ∈ l, c.key ≠ j) → WF (l.foldl (fun t c => Vbwsae.change c t) t) ∧ Vbwsae.get (l.foldl (fun t c => Vbwsae.change c t) t) j = Vbwsae.get t j
  | [], t, w, _, _ => ⟨w, rfl⟩
  | c :: l, t, w, hk, hj => by
    have h := fold_other (j := j) l (Vbwsae.change c t) (change_wf w (hk c List.mem_cons_self)) (fun d hd => hk d (List.mem_cons_of_mem _ hd)) (fun d hd => hj d (List.mem_cons_of_mem _ hd))
    rw [List.foldl_cons]
    refine ⟨h.1, h.2.trans ?_⟩
    rw [change_get w (hk c List.mem_cons_self), if_neg (fun z => hj c List.mem_cons_self z.symm)]
/-- a dict is handed in, another comes out -/
def spPutChanges : Sp := fun vs H Q _ => ∃ (a c : Addr) (kvs : List (Key × V)) (t : Vbwsae.T Int) (ds : List (Change Int)), vs = [.ref a, .ref c] ∧ H a = some (.dK kvs) ∧ RepW kvs t ∧ ChgsAt H c ds ∧ (ds.map (·.key)).Nodup ∧
  (∀ d ∈ ds, d.key < 2 ^ 40 ∧ d.old = Vbwsae.get t d.key ∧ d.old ≠ d.new) ∧ Vbwsae.size t + ds.length ≤ 1000 ∧
  ∀ H' p kvs', Same H H' → H p = none → H' p = some (.dK kvs') → RepW kvs' (ds.foldl (fun t c => Vbwsae.change c t) t) → Q (.ref p) H'
theorem Paired.at {α β : Type} {F : α → β → Prop} : ∀ {l : List α} {m : List β} {i : Nat} {x : α}, Paired F l m → l[i]? = some x → ∃ y, m[i]? = some y ∧ F x y
  | _, _, _, _, .nil, h => by simp at h
  | _, _, 0, x, .cons r _, h => by
    have e := Option.some.inj h
    subst e
    exact ⟨_, rfl, r⟩
  | _, _, i + 1, x, .cons _ t, h => Paired.at (i := i) t h
theorem ok_put_changes (T : Txt K mg Z) : DefOk P w K mg base 1 "put_changes" ["base", "changes"] spPutChanges := by
  refine T.f_put_changes.ok sc_put_changes (fun vs H Q E h => ?_) (fun f cdv A outer s H vs Q E hr h => ⟨_, (pss_cons (ps_set (i := 2) sc_put_changes.nd rfl (Or.inl rfl) (pe_callTy call_dictD (by rfl) T.n_dict (by decide +kernel) (pa_cons (pv 0) pa_nil)))
      (pss_cons (ps_for PassesOwn.never rfl (pi_list (pv 1)) (pg_tup rfl (pgs_cons (pg_name (i := 3) sc_put_changes.nd rfl (Or.inl rfl)) (pgs_cons (pg_name (i := 4) sc_put_changes.nd rfl (Or.inl rfl)) (pgs_cons (pg_name (i := 5) sc_put_changes.nd rfl (Or.inl rfl)) pgs_nil)))) (pss_one (ps_if (pt_cmpR op_isN (pv 5) pe_non (nomark _)) (pss_one (ps_expr (pe_dpop1 (pv 2) (pv 3) ⟨rfl, rfl, rfl, rfl⟩))) (pss_one (ps_dput (hu_of hr) (pv 2) (pv 3) (pv 5) rfl)))))
      (pss_one (ps_ret (pv 2))))), ?_⟩)
  · obtain ⟨a, c, kvs, t, ds, rfl, _⟩ := h; rfl
  · obtain ⟨a, c, kvs, t, ds, rfl, ha, rw0, ⟨rs, hc, pr⟩, nd, hd, hz, q⟩ := h
    refine ⟨_, rfl, a, kvs, rfl, .inl ha, fun p hp => ?_⟩
    have s0 : Same H (upd H p (.dK kvs)) := Same.new hp
    have hl := rw0.len
    refine ⟨_, rfl, c, rfl, ⟨_, SqL.of (s0 _ _ hc)⟩, for_list (K := K) (a := c) (xs := rs.map V.ref) (fun i σ H' => ∃ (v3 v4 v5 : Option V) (kvs' : List (Key × V)), σ = [some (.ref a), some (.ref c), some (.ref p), v3, v4, v5] ∧ Same H H' ∧ H' p = some (.dK kvs') ∧ kvs'.length ≤ kvs.length + i ∧
      RepW kvs' ((ds.take i).foldl (fun t c => Vbwsae.change c t) t)) ⟨none, none, none, kvs, rfl, s0, upd_same, Nat.le_refl _, rw0⟩ (fun i σ H' _ ⟨_, _, _, _, _, s1, _⟩ => SqL.of (s1 _ _ hc)) ?_ ?_⟩
    · rintro i x σ H' hi ⟨v3, v4, v5, kvs', rfl, s1, hp', hl', r1⟩
      rw [List.getElem?_map] at hi
      cases er : rs[i]? with
      | none => rw [er] at hi; cases hi
      | some r =>
        rw [er] at hi
        cases hi
        obtain ⟨d, hdi, hr⟩ := Paired.at pr er
        have hr' : H' r = some (.tup [.int (d.key : Int), optV d.old, optV d.new]) := s1 _ _ hr
        obtain ⟨hk, ho, hne⟩ := hd d (List.mem_of_getElem? hdi)
        have hil : i < ds.length := (List.getElem?_eq_some_iff.mp hdi).1
        have et : (ds.take (i + 1)).foldl (fun t c => Vbwsae.change c t) t = Vbwsae.change d ((ds.take i).foldl (fun t c => Vbwsae.change c t) t) := by
          rw [take_snoc hdi, List.foldl_append]; rfl
        have hoth : ∀ e ∈ ds.take i, e.key ≠ d.key := fun e he z => by
          obtain ⟨j, hj⟩ := List.mem_iff_getElem?.mp he
          have hjl : j < i := by
            have := (List.getElem?_eq_some_iff.mp hj).1
            rw [List.length_take] at this; omega
          rw [List.getElem?_take, if_pos hjl] at hj
          have h1 : (ds.map (·.key))[j]? = some e.key := by rw [List.getElem?_map, hj]; rfl
          have h2 : (ds.map (·.key))[i]? = some e.key := by rw [List.getElem?_map, hdi, z]; rfl
          have := nd_ix nd h1 h2
          omega
        obtain ⟨wi, gi⟩ := fold_other (j := d.key) (ds.take i) t rw0.wf (fun e he => (hd e (List.mem_of_mem_take he)).1) hoth
        refine ⟨r, _, rfl, SqT.of hr', rfl, ?_⟩
        refine ⟨_, _, rfl, _, _, rfl, _, _, rfl, rfl, _, rfl, rfl, _, rfl, ?_⟩
        cases en : d.new with
        | none =>
          have ex : ∃ v, Vbwsae.get t d.key = some v := by
            cases q1 : Vbwsae.get t d.key with
            | none => rw [ho, q1, en] at hne; exact absurd rfl hne
            | some v => exact ⟨v, rfl⟩
          obtain ⟨v, ev⟩ := ex
          refine iteT ⟨_, rfl, p, rfl, .inl ⟨kvs', .inl hp'⟩, _, rfl, kvs', ik (d.key : Int), .int v, hp', rfl, ?_, ?_⟩
          · rw [r1.get, gi, ev]; rfl
          · refine ⟨_, _, _, dropK kvs' (ik (d.key : Int)), rfl, MN.Same.mut s1 hp, upd_same, Nat.le_trans (dropK_le _ _) (by omega), ?_⟩
            rw [et]
            unfold Vbwsae.change
            rw [en]
            exact r1.drop d.key
        | some v =>
          refine iteF ⟨_, rfl, _, rfl, _, rfl, p, _, rfl, DPut.k (k := ik (d.key : Int)) hp' (sizeL (by omega)), ?_⟩
          refine ⟨_, _, _, putK kvs' (ik (d.key : Int)) (.int v), rfl, MN.Same.mut s1 hp, upd_same, Nat.le_trans (putK_le _ _ _) (by omega), ?_⟩
          rw [et]
          unfold Vbwsae.change
          rw [en]
          exact r1.put hk v
    · rintro σ H' ⟨v3, v4, v5, kvs', rfl, s1, hp', hl', r1⟩
      refine ⟨_, rfl, q H' p kvs' s1 hp hp' ?_⟩
      rw [List.length_map, Paired.len pr, List.take_length] at r1
      exact r1
/-- worlds by their ticks, rising: the dict's pairs -/
def encR (l : List (Int × Addr)) : List (Key × V) := l.map fun p => (ik p.1, .ref p.2)
def spKeepWorld : Sp := fun vs H Q _ => ∃ (a w : Addr) (kvs : List (Key × V)) (l : List (Int × Addr)) (t most : Int), vs = [.ref a, .int t, .ref w, .int most] ∧ H a = some (.dK kvs) ∧ kvs.length ≤ 1000 ∧ putK kvs (ik t) (.ref w) = encR l ∧ l ≠ [] ∧ (l.map (·.1)).Pairwise (· < ·) ∧
  Q .non (upd H a (.dK (encR (if most < (l.length : Int) then l.tail else l))))
theorem encR_keys (l : List (Int × Addr)) : (encR l).map (·.1) = (l.map (·.1)).map Sum.inl := by
  unfold encR
  rw [List.map_map, List.map_map]
  rfl
theorem ok_keep_world (T : Txt K mg Z) : DefOk P w K mg base 1 "keep_world" ["worlds", "tick", "world", "most"] spKeepWorld := by
  refine T.f_keep_world.ok sc_keep_world (fun vs H Q E h => ?_) (fun f cdv A outer s H vs Q E hr h => ⟨_, (pss_cons (ps_dput (hu_of hr) (pv 0) (pv 1) (pv 2) rfl)
      (pss_one (ps_if (pt_cmpR op_gt (pe_callB call_lenD (by rfl) T.n_len (by decide +kernel) (pa_cons (pv 0) pa_nil)) (pv 3) (nomark _)) (pss_one (ps_expr (pe_dpop1 (pv 0) (pe_callB (cr_minK rfl) (by rfl) T.n_min (by decide +kernel) (pa_cons (pv 0) pa_nil)) ⟨rfl, rfl, rfl, rfl⟩))) pss_nil))), ?_⟩)
  · obtain ⟨a, w, kvs, l, t, most, rfl, _⟩ := h; rfl
  · obtain ⟨a, wa, kvs, l, t, most, rfl, ha, hl, ep, hne, hs, q⟩ := h
    refine ⟨_, rfl, _, rfl, _, rfl, a, _, rfl, DPut.k (k := ik t) ha (sizeL (by omega)), ?_⟩
    rw [ep]
    have hlen : (encR l).length = l.length := by unfold encR; rw [List.length_map]
    refine ⟨_, rfl, a, _, rfl, upd_same, _, rfl, _, _, rfl, rfl, _, rfl, ?_⟩
    rw [hlen]
    by_cases c : most < (l.length : Int)
    · rw [decide_eq_true c]
      rw [if_pos c] at q
      obtain ⟨p, r, rfl⟩ : ∃ p r, l = p :: r := by
        cases l with
        | nil => exact absurd rfl hne
        | cons p r => exact ⟨p, r, rfl⟩
      rw [List.map_cons, List.pairwise_cons] at hs
      refine iteT ⟨_, rfl, a, rfl, .inl ⟨_, .inl upd_same⟩, _, rfl, a, _, (p :: r).map (·.1), rfl, upd_same, encR_keys _, by simp, fun m hm hmin => ?_⟩
      have em : m = p.1 := by
        have h1 := hmin p.1 (by simp)
        rw [List.map_cons] at hm
        rcases List.mem_cons.mp hm with z | z
        · exact z
        · have := hs.1 m z; omega
      subst em
      refine ⟨_, ik p.1, .ref p.2, upd_same, rfl, valV_pos rfl, ?_⟩
      rw [upd_upd]
      have ed : dropK (encR (p :: r)) (ik p.1) = encR r := by
        show dropK ((ik p.1, V.ref p.2) :: encR r) (ik p.1) = encR r
        rw [dropK_pos rfl, dropK_no]
        rw [encR_keys]
        intro hm2
        obtain ⟨j, hj, e⟩ := List.mem_map.mp hm2
        have e' : j = p.1 := Sum.inl.inj e
        have := hs.1 j hj
        omega
      rw [ed]
      exact q
    · rw [decide_eq_false c]
      rw [if_neg c] at q
      exact iteF q
end MN
set_option Elab.async false
set_option maxRecDepth 100000
set_option maxHeartbeats 2000000
set_option linter.unusedVariables false
namespace MN
open PySem PySem.Spec PyProof.Rows L2
theorem lk_here {k : Str} {v : V} {r : List (Str × V)} : List.lookup k ((k, v) :: r) = some v := by
  simp only [List.lookup, beq_self_eq_true]
theorem lk_past {k g : Str} {v : V} {r : List (Str × V)} (h : (k == g) = false) : List.lookup k ((g, v) :: r) = List.lookup k r := by
  simp only [List.lookup, h]
theorem put_here {f : Str} {v x : V} {r : List (Str × V)} : putF f v ((f, x) :: r) = (f, v) :: r := if_pos rfl
theorem put_past {f g : Str} {v x : V} {r : List (Str × V)} (h : ¬ g = f) : putF f v ((g, x) :: r) = (g, x) :: putF f v r := if_neg h
theorem put_end {f : Str} {v : V} : putF f v [] = [(f, v)] := rfl
def fBetween (x0 x1 x2 x3 : V) : List (Str × V) := [("before", x0), ("after", x1), ("lower_number", x2), ("passed", x3)]
theorem lk_Between_before {x0 x1 x2 x3 : V} : (fBetween x0 x1 x2 x3).lookup ("before" : Str) = some x0 := lk_here
theorem pf_Between_before {x0 x1 x2 x3 : V} {y : V} : putF "before" y (fBetween x0 x1 x2 x3) = fBetween y x1 x2 x3 := put_here
theorem lk_Between_after {x0 x1 x2 x3 : V} : (fBetween x0 x1 x2 x3).lookup ("after" : Str) = some x1 := (lk_past (by decide +kernel)).trans (lk_here)
theorem pf_Between_after {x0 x1 x2 x3 : V} {y : V} : putF "after" y (fBetween x0 x1 x2 x3) = fBetween x0 y x2 x3 := (put_past (by decide +kernel)).trans (congrArg _ (put_here))
theorem lk_Between_lower_number {x0 x1 x2 x3 : V} : (fBetween x0 x1 x2 x3).lookup ("lower_number" : Str) = some x2 := (lk_past (by decide +kernel)).trans ((lk_past (by decide +kernel)).trans (lk_here))
theorem pf_Between_lower_number {x0 x1 x2 x3 : V} {y : V} : putF "lower_number" y (fBetween x0 x1 x2 x3) = fBetween x0 x1 y x3 := (put_past (by decide +kernel)).trans (congrArg _ ((put_past (by decide +kernel)).trans (congrArg _ (put_here))))
theorem lk_Between_passed {x0 x1 x2 x3 : V} : (fBetween x0 x1 x2 x3).lookup ("passed" : Str) = some x3 := (lk_past (by decide +kernel)).trans ((lk_past (by decide +kernel)).trans ((lk_past (by decide +kernel)).trans (lk_here)))
theorem pf_Between_passed {x0 x1 x2 x3 : V} {y : V} : putF "passed" y (fBetween x0 x1 x2 x3) = fBetween x0 x1 x2 y := (put_past (by decide +kernel)).trans (congrArg _ ((put_past (by decide +kernel)).trans (congrArg _ ((put_past (by decide +kernel)).trans (congrArg _ (put_here))))))
theorem nm_Between_upper_number {x0 x1 x2 x3 : V} : (fBetween x0 x1 x2 x3).lookup ("upper_number" : Str) = none := (lk_past (by decide +kernel)).trans ((lk_past (by decide +kernel)).trans ((lk_past (by decide +kernel)).trans ((lk_past (by decide +kernel)).trans (rfl))))
theorem nw_Between_0 {x0 x1 x2 x3 : V} : putF "before" x0 ([] : List (Str × V)) = ([("before", x0)] : List (Str × V)) := put_end
theorem nw_Between_1 {x0 x1 x2 x3 : V} : putF "after" x1 ([("before", x0)] : List (Str × V)) = ([("before", x0), ("after", x1)] : List (Str × V)) := (put_past (by decide +kernel)).trans (congrArg _ (put_end))
theorem nw_Between_2 {x0 x1 x2 x3 : V} : putF "lower_number" x2 ([("before", x0), ("after", x1)] : List (Str × V)) = ([("before", x0), ("after", x1), ("lower_number", x2)] : List (Str × V)) := (put_past (by decide +kernel)).trans (congrArg _ ((put_past (by decide +kernel)).trans (congrArg _ (put_end))))
theorem nw_Between_3 {x0 x1 x2 x3 : V} : putF "passed" x3 ([("before", x0), ("after", x1), ("lower_number", x2)] : List (Str × V)) = ([("before", x0), ("after", x1), ("lower_number", x2), ("passed", x3)] : List (Str × V)) := (put_past (by decide +kernel)).trans (congrArg _ ((put_past (by decide +kernel)).trans (congrArg _ ((put_past (by decide +kernel)).trans (congrArg _ (put_end))))))
def fBounds (x0 x1 x2 : V) : List (Str × V) := [("time", x0), ("lo", x1), ("hi", x2)]
theorem lk_Bounds_time {x0 x1 x2 : V} : (fBounds x0 x1 x2).lookup ("time" : Str) = some x0 := lk_here
theorem pf_Bounds_time {x0 x1 x2 : V} {y : V} : putF "time" y (fBounds x0 x1 x2) = fBounds y x1 x2 := put_here
theorem lk_Bounds_lo {x0 x1 x2 : V} : (fBounds x0 x1 x2).lookup ("lo" : Str) = some x1 := (lk_past (by decide +kernel)).trans (lk_here)
theorem pf_Bounds_lo {x0 x1 x2 : V} {y : V} : putF "lo" y (fBounds x0 x1 x2) = fBounds x0 y x2 := (put_past (by decide +kernel)).trans (congrArg _ (put_here))
theorem lk_Bounds_hi {x0 x1 x2 : V} : (fBounds x0 x1 x2).lookup ("hi" : Str) = some x2 := (lk_past (by decide +kernel)).trans ((lk_past (by decide +kernel)).trans (lk_here))
theorem pf_Bounds_hi {x0 x1 x2 : V} {y : V} : putF "hi" y (fBounds x0 x1 x2) = fBounds x0 x1 y := (put_past (by decide +kernel)).trans (congrArg _ ((put_past (by decide +kernel)).trans (congrArg _ (put_here))))
theorem nm_Bounds_later {x0 x1 x2 : V} : (fBounds x0 x1 x2).lookup ("later" : Str) = none := (lk_past (by decide +kernel)).trans ((lk_past (by decide +kernel)).trans ((lk_past (by decide +kernel)).trans (rfl)))
theorem nm_Bounds_told {x0 x1 x2 : V} : (fBounds x0 x1 x2).lookup ("told" : Str) = none := (lk_past (by decide +kernel)).trans ((lk_past (by decide +kernel)).trans ((lk_past (by decide +kernel)).trans (rfl)))
theorem nw_Bounds_0 {x0 x1 x2 : V} : putF "time" x0 ([] : List (Str × V)) = ([("time", x0)] : List (Str × V)) := put_end
theorem nw_Bounds_1 {x0 x1 x2 : V} : putF "lo" x1 ([("time", x0)] : List (Str × V)) = ([("time", x0), ("lo", x1)] : List (Str × V)) := (put_past (by decide +kernel)).trans (congrArg _ (put_end))
theorem nw_Bounds_2 {x0 x1 x2 : V} : putF "hi" x2 ([("time", x0), ("lo", x1)] : List (Str × V)) = ([("time", x0), ("lo", x1), ("hi", x2)] : List (Str × V)) := (put_past (by decide +kernel)).trans (congrArg _ ((put_past (by decide +kernel)).trans (congrArg _ (put_end))))
def fDown (x0 x1 x2 x3 : V) : List (Str × V) := [("client", x0), ("tick", x1), ("base", x2), ("changes", x3)]
theorem lk_Down_client {x0 x1 x2 x3 : V} : (fDown x0 x1 x2 x3).lookup ("client" : Str) = some x0 := lk_here
theorem pf_Down_client {x0 x1 x2 x3 : V} {y : V} : putF "client" y (fDown x0 x1 x2 x3) = fDown y x1 x2 x3 := put_here
theorem lk_Down_tick {x0 x1 x2 x3 : V} : (fDown x0 x1 x2 x3).lookup ("tick" : Str) = some x1 := (lk_past (by decide +kernel)).trans (lk_here)
theorem pf_Down_tick {x0 x1 x2 x3 : V} {y : V} : putF "tick" y (fDown x0 x1 x2 x3) = fDown x0 y x2 x3 := (put_past (by decide +kernel)).trans (congrArg _ (put_here))
theorem lk_Down_base {x0 x1 x2 x3 : V} : (fDown x0 x1 x2 x3).lookup ("base" : Str) = some x2 := (lk_past (by decide +kernel)).trans ((lk_past (by decide +kernel)).trans (lk_here))
theorem pf_Down_base {x0 x1 x2 x3 : V} {y : V} : putF "base" y (fDown x0 x1 x2 x3) = fDown x0 x1 y x3 := (put_past (by decide +kernel)).trans (congrArg _ ((put_past (by decide +kernel)).trans (congrArg _ (put_here))))
theorem lk_Down_changes {x0 x1 x2 x3 : V} : (fDown x0 x1 x2 x3).lookup ("changes" : Str) = some x3 := (lk_past (by decide +kernel)).trans ((lk_past (by decide +kernel)).trans ((lk_past (by decide +kernel)).trans (lk_here)))
theorem pf_Down_changes {x0 x1 x2 x3 : V} {y : V} : putF "changes" y (fDown x0 x1 x2 x3) = fDown x0 x1 x2 y := (put_past (by decide +kernel)).trans (congrArg _ ((put_past (by decide +kernel)).trans (congrArg _ ((put_past (by decide +kernel)).trans (congrArg _ (put_here))))))
theorem nw_Down_0 {x0 x1 x2 x3 : V} : putF "client" x0 ([] : List (Str × V)) = ([("client", x0)] : List (Str × V)) := put_end
theorem nw_Down_1 {x0 x1 x2 x3 : V} : putF "tick" x1 ([("client", x0)] : List (Str × V)) = ([("client", x0), ("tick", x1)] : List (Str × V)) := (put_past (by decide +kernel)).trans (congrArg _ (put_end))
theorem nw_Down_2 {x0 x1 x2 x3 : V} : putF "base" x2 ([("client", x0), ("tick", x1)] : List (Str × V)) = ([("client", x0), ("tick", x1), ("base", x2)] : List (Str × V)) := (put_past (by decide +kernel)).trans (congrArg _ ((put_past (by decide +kernel)).trans (congrArg _ (put_end))))
theorem nw_Down_3 {x0 x1 x2 x3 : V} : putF "changes" x3 ([("client", x0), ("tick", x1), ("base", x2)] : List (Str × V)) = ([("client", x0), ("tick", x1), ("base", x2), ("changes", x3)] : List (Str × V)) := (put_past (by decide +kernel)).trans (congrArg _ ((put_past (by decide +kernel)).trans (congrArg _ ((put_past (by decide +kernel)).trans (congrArg _ (put_end))))))
def fUp (x0 x1 x2 : V) : List (Str × V) := [("client", x0), ("tick", x1), ("inputs", x2)]
theorem lk_Up_client {x0 x1 x2 : V} : (fUp x0 x1 x2).lookup ("client" : Str) = some x0 := lk_here
theorem pf_Up_client {x0 x1 x2 : V} {y : V} : putF "client" y (fUp x0 x1 x2) = fUp y x1 x2 := put_here
theorem lk_Up_tick {x0 x1 x2 : V} : (fUp x0 x1 x2).lookup ("tick" : Str) = some x1 := (lk_past (by decide +kernel)).trans (lk_here)
theorem pf_Up_tick {x0 x1 x2 : V} {y : V} : putF "tick" y (fUp x0 x1 x2) = fUp x0 y x2 := (put_past (by decide +kernel)).trans (congrArg _ (put_here))
theorem lk_Up_inputs {x0 x1 x2 : V} : (fUp x0 x1 x2).lookup ("inputs" : Str) = some x2 := (lk_past (by decide +kernel)).trans ((lk_past (by decide +kernel)).trans (lk_here))
theorem pf_Up_inputs {x0 x1 x2 : V} {y : V} : putF "inputs" y (fUp x0 x1 x2) = fUp x0 x1 y := (put_past (by decide +kernel)).trans (congrArg _ ((put_past (by decide +kernel)).trans (congrArg _ (put_here))))
theorem nw_Up_0 {x0 x1 x2 : V} : putF "client" x0 ([] : List (Str × V)) = ([("client", x0)] : List (Str × V)) := put_end
theorem nw_Up_1 {x0 x1 x2 : V} : putF "tick" x1 ([("client", x0)] : List (Str × V)) = ([("client", x0), ("tick", x1)] : List (Str × V)) := (put_past (by decide +kernel)).trans (congrArg _ (put_end))
theorem nw_Up_2 {x0 x1 x2 : V} : putF "inputs" x2 ([("client", x0), ("tick", x1)] : List (Str × V)) = ([("client", x0), ("tick", x1), ("inputs", x2)] : List (Str × V)) := (put_past (by decide +kernel)).trans (congrArg _ ((put_past (by decide +kernel)).trans (congrArg _ (put_end))))
def fClient (x0 x1 x2 x3 x4 x5 x6 : V) : List (Str × V) := [("number", x0), ("body", x1), ("last_tick", x2), ("worlds", x3), ("inputs_made", x4), ("inputs", x5), ("bounds", x6)]
theorem lk_Client_number {x0 x1 x2 x3 x4 x5 x6 : V} : (fClient x0 x1 x2 x3 x4 x5 x6).lookup ("number" : Str) = some x0 := lk_here
theorem pf_Client_number {x0 x1 x2 x3 x4 x5 x6 : V} {y : V} : putF "number" y (fClient x0 x1 x2 x3 x4 x5 x6) = fClient y x1 x2 x3 x4 x5 x6 := put_here
theorem lk_Client_body {x0 x1 x2 x3 x4 x5 x6 : V} : (fClient x0 x1 x2 x3 x4 x5 x6).lookup ("body" : Str) = some x1 := (lk_past (by decide +kernel)).trans (lk_here)
theorem pf_Client_body {x0 x1 x2 x3 x4 x5 x6 : V} {y : V} : putF "body" y (fClient x0 x1 x2 x3 x4 x5 x6) = fClient x0 y x2 x3 x4 x5 x6 := (put_past (by decide +kernel)).trans (congrArg _ (put_here))
theorem lk_Client_last_tick {x0 x1 x2 x3 x4 x5 x6 : V} : (fClient x0 x1 x2 x3 x4 x5 x6).lookup ("last_tick" : Str) = some x2 := (lk_past (by decide +kernel)).trans ((lk_past (by decide +kernel)).trans (lk_here))
theorem pf_Client_last_tick {x0 x1 x2 x3 x4 x5 x6 : V} {y : V} : putF "last_tick" y (fClient x0 x1 x2 x3 x4 x5 x6) = fClient x0 x1 y x3 x4 x5 x6 := (put_past (by decide +kernel)).trans (congrArg _ ((put_past (by decide +kernel)).trans (congrArg _ (put_here))))
theorem lk_Client_worlds {x0 x1 x2 x3 x4 x5 x6 : V} : (fClient x0 x1 x2 x3 x4 x5 x6).lookup ("worlds" : Str) = some x3 := (lk_past (by decide +kernel)).trans ((lk_past (by decide +kernel)).trans ((lk_past (by decide +kernel)).trans (lk_here)))
theorem pf_Client_worlds {x0 x1 x2 x3 x4 x5 x6 : V} {y : V} : putF "worlds" y (fClient x0 x1 x2 x3 x4 x5 x6) = fClient x0 x1 x2 y x4 x5 x6 := (put_past (by decide +kernel)).trans (congrArg _ ((put_past (by decide +kernel)).trans (congrArg _ ((put_past (by decide +kernel)).trans (congrArg _ (put_here))))))
theorem lk_Client_inputs_made {x0 x1 x2 x3 x4 x5 x6 : V} : (fClient x0 x1 x2 x3 x4 x5 x6).lookup ("inputs_made" : Str) = some x4 := (lk_past (by decide +kernel)).trans ((lk_past (by decide +kernel)).trans ((lk_past (by decide +kernel)).trans ((lk_past (by decide +kernel)).trans (lk_here))))
theorem pf_Client_inputs_made {x0 x1 x2 x3 x4 x5 x6 : V} {y : V} : putF "inputs_made" y (fClient x0 x1 x2 x3 x4 x5 x6) = fClient x0 x1 x2 x3 y x5 x6 := (put_past (by decide +kernel)).trans (congrArg _ ((put_past (by decide +kernel)).trans (congrArg _ ((put_past (by decide +kernel)).trans (congrArg _ ((put_past (by decide +kernel)).trans (congrArg _ (put_here))))))))
theorem lk_Client_inputs {x0 x1 x2 x3 x4 x5 x6 : V} : (fClient x0 x1 x2 x3 x4 x5 x6).lookup ("inputs" : Str) = some x5 := (lk_past (by decide +kernel)).trans ((lk_past (by decide +kernel)).trans ((lk_past (by decide +kernel)).trans ((lk_past (by decide +kernel)).trans ((lk_past (by decide +kernel)).trans (lk_here)))))
theorem pf_Client_inputs {x0 x1 x2 x3 x4 x5 x6 : V} {y : V} : putF "inputs" y (fClient x0 x1 x2 x3 x4 x5 x6) = fClient x0 x1 x2 x3 x4 y x6 := (put_past (by decide +kernel)).trans (congrArg _ ((put_past (by decide +kernel)).trans (congrArg _ ((put_past (by decide +kernel)).trans (congrArg _ ((put_past (by decide +kernel)).trans (congrArg _ ((put_past (by decide +kernel)).trans (congrArg _ (put_here))))))))))
theorem lk_Client_bounds {x0 x1 x2 x3 x4 x5 x6 : V} : (fClient x0 x1 x2 x3 x4 x5 x6).lookup ("bounds" : Str) = some x6 := (lk_past (by decide +kernel)).trans ((lk_past (by decide +kernel)).trans ((lk_past (by decide +kernel)).trans ((lk_past (by decide +kernel)).trans ((lk_past (by decide +kernel)).trans ((lk_past (by decide +kernel)).trans (lk_here))))))
theorem pf_Client_bounds {x0 x1 x2 x3 x4 x5 x6 : V} {y : V} : putF "bounds" y (fClient x0 x1 x2 x3 x4 x5 x6) = fClient x0 x1 x2 x3 x4 x5 y := (put_past (by decide +kernel)).trans (congrArg _ ((put_past (by decide +kernel)).trans (congrArg _ ((put_past (by decide +kernel)).trans (congrArg _ ((put_past (by decide +kernel)).trans (congrArg _ ((put_past (by decide +kernel)).trans (congrArg _ ((put_past (by decide +kernel)).trans (congrArg _ (put_here))))))))))))
theorem nm_Client_is_full {x0 x1 x2 x3 x4 x5 x6 : V} : (fClient x0 x1 x2 x3 x4 x5 x6).lookup ("is_full" : Str) = none := (lk_past (by decide +kernel)).trans ((lk_past (by decide +kernel)).trans ((lk_past (by decide +kernel)).trans ((lk_past (by decide +kernel)).trans ((lk_past (by decide +kernel)).trans ((lk_past (by decide +kernel)).trans ((lk_past (by decide +kernel)).trans (rfl)))))))
theorem nm_Client_make_input {x0 x1 x2 x3 x4 x5 x6 : V} : (fClient x0 x1 x2 x3 x4 x5 x6).lookup ("make_input" : Str) = none := (lk_past (by decide +kernel)).trans ((lk_past (by decide +kernel)).trans ((lk_past (by decide +kernel)).trans ((lk_past (by decide +kernel)).trans ((lk_past (by decide +kernel)).trans ((lk_past (by decide +kernel)).trans ((lk_past (by decide +kernel)).trans (rfl)))))))
theorem nm_Client_make_up {x0 x1 x2 x3 x4 x5 x6 : V} : (fClient x0 x1 x2 x3 x4 x5 x6).lookup ("make_up" : Str) = none := (lk_past (by decide +kernel)).trans ((lk_past (by decide +kernel)).trans ((lk_past (by decide +kernel)).trans ((lk_past (by decide +kernel)).trans ((lk_past (by decide +kernel)).trans ((lk_past (by decide +kernel)).trans ((lk_past (by decide +kernel)).trans (rfl)))))))
theorem nm_Client_take_down {x0 x1 x2 x3 x4 x5 x6 : V} : (fClient x0 x1 x2 x3 x4 x5 x6).lookup ("take_down" : Str) = none := (lk_past (by decide +kernel)).trans ((lk_past (by decide +kernel)).trans ((lk_past (by decide +kernel)).trans ((lk_past (by decide +kernel)).trans ((lk_past (by decide +kernel)).trans ((lk_past (by decide +kernel)).trans ((lk_past (by decide +kernel)).trans (rfl)))))))
theorem nm_Client_world_of {x0 x1 x2 x3 x4 x5 x6 : V} : (fClient x0 x1 x2 x3 x4 x5 x6).lookup ("world_of" : Str) = none := (lk_past (by decide +kernel)).trans ((lk_past (by decide +kernel)).trans ((lk_past (by decide +kernel)).trans ((lk_past (by decide +kernel)).trans ((lk_past (by decide +kernel)).trans ((lk_past (by decide +kernel)).trans ((lk_past (by decide +kernel)).trans (rfl)))))))
theorem nm_Client_last_world {x0 x1 x2 x3 x4 x5 x6 : V} : (fClient x0 x1 x2 x3 x4 x5 x6).lookup ("last_world" : Str) = none := (lk_past (by decide +kernel)).trans ((lk_past (by decide +kernel)).trans ((lk_past (by decide +kernel)).trans ((lk_past (by decide +kernel)).trans ((lk_past (by decide +kernel)).trans ((lk_past (by decide +kernel)).trans ((lk_past (by decide +kernel)).trans (rfl)))))))
theorem nm_Client_guess {x0 x1 x2 x3 x4 x5 x6 : V} : (fClient x0 x1 x2 x3 x4 x5 x6).lookup ("guess" : Str) = none := (lk_past (by decide +kernel)).trans ((lk_past (by decide +kernel)).trans ((lk_past (by decide +kernel)).trans ((lk_past (by decide +kernel)).trans ((lk_past (by decide +kernel)).trans ((lk_past (by decide +kernel)).trans ((lk_past (by decide +kernel)).trans (rfl)))))))
theorem nm_Client_knows_later_than {x0 x1 x2 x3 x4 x5 x6 : V} : (fClient x0 x1 x2 x3 x4 x5 x6).lookup ("knows_later_than" : Str) = none := (lk_past (by decide +kernel)).trans ((lk_past (by decide +kernel)).trans ((lk_past (by decide +kernel)).trans ((lk_past (by decide +kernel)).trans ((lk_past (by decide +kernel)).trans ((lk_past (by decide +kernel)).trans ((lk_past (by decide +kernel)).trans (rfl)))))))
theorem nm_Client_learn_bounds {x0 x1 x2 x3 x4 x5 x6 : V} : (fClient x0 x1 x2 x3 x4 x5 x6).lookup ("learn_bounds" : Str) = none := (lk_past (by decide +kernel)).trans ((lk_past (by decide +kernel)).trans ((lk_past (by decide +kernel)).trans ((lk_past (by decide +kernel)).trans ((lk_past (by decide +kernel)).trans ((lk_past (by decide +kernel)).trans ((lk_past (by decide +kernel)).trans (rfl)))))))
theorem nm_Client_forget_inputs {x0 x1 x2 x3 x4 x5 x6 : V} : (fClient x0 x1 x2 x3 x4 x5 x6).lookup ("forget_inputs" : Str) = none := (lk_past (by decide +kernel)).trans ((lk_past (by decide +kernel)).trans ((lk_past (by decide +kernel)).trans ((lk_past (by decide +kernel)).trans ((lk_past (by decide +kernel)).trans ((lk_past (by decide +kernel)).trans ((lk_past (by decide +kernel)).trans (rfl)))))))
theorem nw_Client_0 {x0 x1 x2 x3 x4 x5 x6 : V} : putF "number" x0 ([] : List (Str × V)) = ([("number", x0)] : List (Str × V)) := put_end
theorem nw_Client_1 {x0 x1 x2 x3 x4 x5 x6 : V} : putF "body" x1 ([("number", x0)] : List (Str × V)) = ([("number", x0), ("body", x1)] : List (Str × V)) := (put_past (by decide +kernel)).trans (congrArg _ (put_end))
theorem nw_Client_2 {x0 x1 x2 x3 x4 x5 x6 : V} : putF "last_tick" x2 ([("number", x0), ("body", x1)] : List (Str × V)) = ([("number", x0), ("body", x1), ("last_tick", x2)] : List (Str × V)) := (put_past (by decide +kernel)).trans (congrArg _ ((put_past (by decide +kernel)).trans (congrArg _ (put_end))))
theorem nw_Client_3 {x0 x1 x2 x3 x4 x5 x6 : V} : putF "worlds" x3 ([("number", x0), ("body", x1), ("last_tick", x2)] : List (Str × V)) = ([("number", x0), ("body", x1), ("last_tick", x2), ("worlds", x3)] : List (Str × V)) := (put_past (by decide +kernel)).trans (congrArg _ ((put_past (by decide +kernel)).trans (congrArg _ ((put_past (by decide +kernel)).trans (congrArg _ (put_end))))))
theorem nw_Client_4 {x0 x1 x2 x3 x4 x5 x6 : V} : putF "inputs_made" x4 ([("number", x0), ("body", x1), ("last_tick", x2), ("worlds", x3)] : List (Str × V)) = ([("number", x0), ("body", x1), ("last_tick", x2), ("worlds", x3), ("inputs_made", x4)] : List (Str × V)) := (put_past (by decide +kernel)).trans (congrArg _ ((put_past (by decide +kernel)).trans (congrArg _ ((put_past (by decide +kernel)).trans (congrArg _ ((put_past (by decide +kernel)).trans (congrArg _ (put_end))))))))
theorem nw_Client_5 {x0 x1 x2 x3 x4 x5 x6 : V} : putF "inputs" x5 ([("number", x0), ("body", x1), ("last_tick", x2), ("worlds", x3), ("inputs_made", x4)] : List (Str × V)) = ([("number", x0), ("body", x1), ("last_tick", x2), ("worlds", x3), ("inputs_made", x4), ("inputs", x5)] : List (Str × V)) := (put_past (by decide +kernel)).trans (congrArg _ ((put_past (by decide +kernel)).trans (congrArg _ ((put_past (by decide +kernel)).trans (congrArg _ ((put_past (by decide +kernel)).trans (congrArg _ ((put_past (by decide +kernel)).trans (congrArg _ (put_end))))))))))
theorem nw_Client_6 {x0 x1 x2 x3 x4 x5 x6 : V} : putF "bounds" x6 ([("number", x0), ("body", x1), ("last_tick", x2), ("worlds", x3), ("inputs_made", x4), ("inputs", x5)] : List (Str × V)) = ([("number", x0), ("body", x1), ("last_tick", x2), ("worlds", x3), ("inputs_made", x4), ("inputs", x5), ("bounds", x6)] : List (Str × V)) := (put_past (by decide +kernel)).trans (congrArg _ ((put_past (by decide +kernel)).trans (congrArg _ ((put_past (by decide +kernel)).trans (congrArg _ ((put_past (by decide +kernel)).trans (congrArg _ ((put_past (by decide +kernel)).trans (congrArg _ ((put_past (by decide +kernel)).trans (congrArg _ (put_end))))))))))))
def fPeer (x0 x1 x2 x3 x4 : V) : List (Str × V) := [("number", x0), ("body", x1), ("known_tick", x2), ("sent", x3), ("waiting", x4)]
theorem lk_Peer_number {x0 x1 x2 x3 x4 : V} : (fPeer x0 x1 x2 x3 x4).lookup ("number" : Str) = some x0 := lk_here
theorem pf_Peer_number {x0 x1 x2 x3 x4 : V} {y : V} : putF "number" y (fPeer x0 x1 x2 x3 x4) = fPeer y x1 x2 x3 x4 := put_here
theorem lk_Peer_body {x0 x1 x2 x3 x4 : V} : (fPeer x0 x1 x2 x3 x4).lookup ("body" : Str) = some x1 := (lk_past (by decide +kernel)).trans (lk_here)
theorem pf_Peer_body {x0 x1 x2 x3 x4 : V} {y : V} : putF "body" y (fPeer x0 x1 x2 x3 x4) = fPeer x0 y x2 x3 x4 := (put_past (by decide +kernel)).trans (congrArg _ (put_here))
theorem lk_Peer_known_tick {x0 x1 x2 x3 x4 : V} : (fPeer x0 x1 x2 x3 x4).lookup ("known_tick" : Str) = some x2 := (lk_past (by decide +kernel)).trans ((lk_past (by decide +kernel)).trans (lk_here))
theorem pf_Peer_known_tick {x0 x1 x2 x3 x4 : V} {y : V} : putF "known_tick" y (fPeer x0 x1 x2 x3 x4) = fPeer x0 x1 y x3 x4 := (put_past (by decide +kernel)).trans (congrArg _ ((put_past (by decide +kernel)).trans (congrArg _ (put_here))))
theorem lk_Peer_sent {x0 x1 x2 x3 x4 : V} : (fPeer x0 x1 x2 x3 x4).lookup ("sent" : Str) = some x3 := (lk_past (by decide +kernel)).trans ((lk_past (by decide +kernel)).trans ((lk_past (by decide +kernel)).trans (lk_here)))
theorem pf_Peer_sent {x0 x1 x2 x3 x4 : V} {y : V} : putF "sent" y (fPeer x0 x1 x2 x3 x4) = fPeer x0 x1 x2 y x4 := (put_past (by decide +kernel)).trans (congrArg _ ((put_past (by decide +kernel)).trans (congrArg _ ((put_past (by decide +kernel)).trans (congrArg _ (put_here))))))
theorem lk_Peer_waiting {x0 x1 x2 x3 x4 : V} : (fPeer x0 x1 x2 x3 x4).lookup ("waiting" : Str) = some x4 := (lk_past (by decide +kernel)).trans ((lk_past (by decide +kernel)).trans ((lk_past (by decide +kernel)).trans ((lk_past (by decide +kernel)).trans (lk_here))))
theorem pf_Peer_waiting {x0 x1 x2 x3 x4 : V} {y : V} : putF "waiting" y (fPeer x0 x1 x2 x3 x4) = fPeer x0 x1 x2 x3 y := (put_past (by decide +kernel)).trans (congrArg _ ((put_past (by decide +kernel)).trans (congrArg _ ((put_past (by decide +kernel)).trans (congrArg _ ((put_past (by decide +kernel)).trans (congrArg _ (put_here))))))))
theorem nm_Peer_make_down {x0 x1 x2 x3 x4 : V} : (fPeer x0 x1 x2 x3 x4).lookup ("make_down" : Str) = none := (lk_past (by decide +kernel)).trans ((lk_past (by decide +kernel)).trans ((lk_past (by decide +kernel)).trans ((lk_past (by decide +kernel)).trans ((lk_past (by decide +kernel)).trans (rfl)))))
theorem nm_Peer_choose_base {x0 x1 x2 x3 x4 : V} : (fPeer x0 x1 x2 x3 x4).lookup ("choose_base" : Str) = none := (lk_past (by decide +kernel)).trans ((lk_past (by decide +kernel)).trans ((lk_past (by decide +kernel)).trans ((lk_past (by decide +kernel)).trans ((lk_past (by decide +kernel)).trans (rfl)))))
theorem nm_Peer_take_up {x0 x1 x2 x3 x4 : V} : (fPeer x0 x1 x2 x3 x4).lookup ("take_up" : Str) = none := (lk_past (by decide +kernel)).trans ((lk_past (by decide +kernel)).trans ((lk_past (by decide +kernel)).trans ((lk_past (by decide +kernel)).trans ((lk_past (by decide +kernel)).trans (rfl)))))
theorem nm_Peer_follow_waiting {x0 x1 x2 x3 x4 : V} : (fPeer x0 x1 x2 x3 x4).lookup ("follow_waiting" : Str) = none := (lk_past (by decide +kernel)).trans ((lk_past (by decide +kernel)).trans ((lk_past (by decide +kernel)).trans ((lk_past (by decide +kernel)).trans ((lk_past (by decide +kernel)).trans (rfl)))))
theorem nw_Peer_0 {x0 x1 x2 x3 x4 : V} : putF "number" x0 ([] : List (Str × V)) = ([("number", x0)] : List (Str × V)) := put_end
theorem nw_Peer_1 {x0 x1 x2 x3 x4 : V} : putF "body" x1 ([("number", x0)] : List (Str × V)) = ([("number", x0), ("body", x1)] : List (Str × V)) := (put_past (by decide +kernel)).trans (congrArg _ (put_end))
theorem nw_Peer_2 {x0 x1 x2 x3 x4 : V} : putF "known_tick" x2 ([("number", x0), ("body", x1)] : List (Str × V)) = ([("number", x0), ("body", x1), ("known_tick", x2)] : List (Str × V)) := (put_past (by decide +kernel)).trans (congrArg _ ((put_past (by decide +kernel)).trans (congrArg _ (put_end))))
theorem nw_Peer_3 {x0 x1 x2 x3 x4 : V} : putF "sent" x3 ([("number", x0), ("body", x1), ("known_tick", x2)] : List (Str × V)) = ([("number", x0), ("body", x1), ("known_tick", x2), ("sent", x3)] : List (Str × V)) := (put_past (by decide +kernel)).trans (congrArg _ ((put_past (by decide +kernel)).trans (congrArg _ ((put_past (by decide +kernel)).trans (congrArg _ (put_end))))))
theorem nw_Peer_4 {x0 x1 x2 x3 x4 : V} : putF "waiting" x4 ([("number", x0), ("body", x1), ("known_tick", x2), ("sent", x3)] : List (Str × V)) = ([("number", x0), ("body", x1), ("known_tick", x2), ("sent", x3), ("waiting", x4)] : List (Str × V)) := (put_past (by decide +kernel)).trans (congrArg _ ((put_past (by decide +kernel)).trans (congrArg _ ((put_past (by decide +kernel)).trans (congrArg _ ((put_past (by decide +kernel)).trans (congrArg _ (put_end))))))))
def fNet (x0 x1 x2 x3 x4 x5 x6 : V) : List (Str × V) := [("world", x0), ("tick", x1), ("kept", x2), ("clients", x3), ("peers", x4), ("packets", x5), ("drift", x6)]
theorem lk_Net_world {x0 x1 x2 x3 x4 x5 x6 : V} : (fNet x0 x1 x2 x3 x4 x5 x6).lookup ("world" : Str) = some x0 := lk_here
theorem pf_Net_world {x0 x1 x2 x3 x4 x5 x6 : V} {y : V} : putF "world" y (fNet x0 x1 x2 x3 x4 x5 x6) = fNet y x1 x2 x3 x4 x5 x6 := put_here
theorem lk_Net_tick {x0 x1 x2 x3 x4 x5 x6 : V} : (fNet x0 x1 x2 x3 x4 x5 x6).lookup ("tick" : Str) = some x1 := (lk_past (by decide +kernel)).trans (lk_here)
theorem pf_Net_tick {x0 x1 x2 x3 x4 x5 x6 : V} {y : V} : putF "tick" y (fNet x0 x1 x2 x3 x4 x5 x6) = fNet x0 y x2 x3 x4 x5 x6 := (put_past (by decide +kernel)).trans (congrArg _ (put_here))
theorem lk_Net_kept {x0 x1 x2 x3 x4 x5 x6 : V} : (fNet x0 x1 x2 x3 x4 x5 x6).lookup ("kept" : Str) = some x2 := (lk_past (by decide +kernel)).trans ((lk_past (by decide +kernel)).trans (lk_here))
theorem pf_Net_kept {x0 x1 x2 x3 x4 x5 x6 : V} {y : V} : putF "kept" y (fNet x0 x1 x2 x3 x4 x5 x6) = fNet x0 x1 y x3 x4 x5 x6 := (put_past (by decide +kernel)).trans (congrArg _ ((put_past (by decide +kernel)).trans (congrArg _ (put_here))))
theorem lk_Net_clients {x0 x1 x2 x3 x4 x5 x6 : V} : (fNet x0 x1 x2 x3 x4 x5 x6).lookup ("clients" : Str) = some x3 := (lk_past (by decide +kernel)).trans ((lk_past (by decide +kernel)).trans ((lk_past (by decide +kernel)).trans (lk_here)))
theorem pf_Net_clients {x0 x1 x2 x3 x4 x5 x6 : V} {y : V} : putF "clients" y (fNet x0 x1 x2 x3 x4 x5 x6) = fNet x0 x1 x2 y x4 x5 x6 := (put_past (by decide +kernel)).trans (congrArg _ ((put_past (by decide +kernel)).trans (congrArg _ ((put_past (by decide +kernel)).trans (congrArg _ (put_here))))))
theorem lk_Net_peers {x0 x1 x2 x3 x4 x5 x6 : V} : (fNet x0 x1 x2 x3 x4 x5 x6).lookup ("peers" : Str) = some x4 := (lk_past (by decide +kernel)).trans ((lk_past (by decide +kernel)).trans ((lk_past (by decide +kernel)).trans ((lk_past (by decide +kernel)).trans (lk_here))))
theorem pf_Net_peers {x0 x1 x2 x3 x4 x5 x6 : V} {y : V} : putF "peers" y (fNet x0 x1 x2 x3 x4 x5 x6) = fNet x0 x1 x2 x3 y x5 x6 := (put_past (by decide +kernel)).trans (congrArg _ ((put_past (by decide +kernel)).trans (congrArg _ ((put_past (by decide +kernel)).trans (congrArg _ ((put_past (by decide +kernel)).trans (congrArg _ (put_here))))))))
theorem lk_Net_packets {x0 x1 x2 x3 x4 x5 x6 : V} : (fNet x0 x1 x2 x3 x4 x5 x6).lookup ("packets" : Str) = some x5 := (lk_past (by decide +kernel)).trans ((lk_past (by decide +kernel)).trans ((lk_past (by decide +kernel)).trans ((lk_past (by decide +kernel)).trans ((lk_past (by decide +kernel)).trans (lk_here)))))
theorem pf_Net_packets {x0 x1 x2 x3 x4 x5 x6 : V} {y : V} : putF "packets" y (fNet x0 x1 x2 x3 x4 x5 x6) = fNet x0 x1 x2 x3 x4 y x6 := (put_past (by decide +kernel)).trans (congrArg _ ((put_past (by decide +kernel)).trans (congrArg _ ((put_past (by decide +kernel)).trans (congrArg _ ((put_past (by decide +kernel)).trans (congrArg _ ((put_past (by decide +kernel)).trans (congrArg _ (put_here))))))))))
theorem lk_Net_drift {x0 x1 x2 x3 x4 x5 x6 : V} : (fNet x0 x1 x2 x3 x4 x5 x6).lookup ("drift" : Str) = some x6 := (lk_past (by decide +kernel)).trans ((lk_past (by decide +kernel)).trans ((lk_past (by decide +kernel)).trans ((lk_past (by decide +kernel)).trans ((lk_past (by decide +kernel)).trans ((lk_past (by decide +kernel)).trans (lk_here))))))
theorem pf_Net_drift {x0 x1 x2 x3 x4 x5 x6 : V} {y : V} : putF "drift" y (fNet x0 x1 x2 x3 x4 x5 x6) = fNet x0 x1 x2 x3 x4 x5 y := (put_past (by decide +kernel)).trans (congrArg _ ((put_past (by decide +kernel)).trans (congrArg _ ((put_past (by decide +kernel)).trans (congrArg _ ((put_past (by decide +kernel)).trans (congrArg _ ((put_past (by decide +kernel)).trans (congrArg _ ((put_past (by decide +kernel)).trans (congrArg _ (put_here))))))))))))
theorem nm_Net_clients_full {x0 x1 x2 x3 x4 x5 x6 : V} : (fNet x0 x1 x2 x3 x4 x5 x6).lookup ("clients_full" : Str) = none := (lk_past (by decide +kernel)).trans ((lk_past (by decide +kernel)).trans ((lk_past (by decide +kernel)).trans ((lk_past (by decide +kernel)).trans ((lk_past (by decide +kernel)).trans ((lk_past (by decide +kernel)).trans ((lk_past (by decide +kernel)).trans (rfl)))))))
theorem nm_Net_packets_full {x0 x1 x2 x3 x4 x5 x6 : V} : (fNet x0 x1 x2 x3 x4 x5 x6).lookup ("packets_full" : Str) = none := (lk_past (by decide +kernel)).trans ((lk_past (by decide +kernel)).trans ((lk_past (by decide +kernel)).trans ((lk_past (by decide +kernel)).trans ((lk_past (by decide +kernel)).trans ((lk_past (by decide +kernel)).trans ((lk_past (by decide +kernel)).trans (rfl)))))))
theorem nm_Net_body_is_taken {x0 x1 x2 x3 x4 x5 x6 : V} : (fNet x0 x1 x2 x3 x4 x5 x6).lookup ("body_is_taken" : Str) = none := (lk_past (by decide +kernel)).trans ((lk_past (by decide +kernel)).trans ((lk_past (by decide +kernel)).trans ((lk_past (by decide +kernel)).trans ((lk_past (by decide +kernel)).trans ((lk_past (by decide +kernel)).trans ((lk_past (by decide +kernel)).trans (rfl)))))))
theorem nm_Net_some_clock_is_known {x0 x1 x2 x3 x4 x5 x6 : V} : (fNet x0 x1 x2 x3 x4 x5 x6).lookup ("some_clock_is_known" : Str) = none := (lk_past (by decide +kernel)).trans ((lk_past (by decide +kernel)).trans ((lk_past (by decide +kernel)).trans ((lk_past (by decide +kernel)).trans ((lk_past (by decide +kernel)).trans ((lk_past (by decide +kernel)).trans ((lk_past (by decide +kernel)).trans (rfl)))))))
theorem nm_Net_add_client {x0 x1 x2 x3 x4 x5 x6 : V} : (fNet x0 x1 x2 x3 x4 x5 x6).lookup ("add_client" : Str) = none := (lk_past (by decide +kernel)).trans ((lk_past (by decide +kernel)).trans ((lk_past (by decide +kernel)).trans ((lk_past (by decide +kernel)).trans ((lk_past (by decide +kernel)).trans ((lk_past (by decide +kernel)).trans ((lk_past (by decide +kernel)).trans (rfl)))))))
theorem nm_Net_followed_by {x0 x1 x2 x3 x4 x5 x6 : V} : (fNet x0 x1 x2 x3 x4 x5 x6).lookup ("followed_by" : Str) = none := (lk_past (by decide +kernel)).trans ((lk_past (by decide +kernel)).trans ((lk_past (by decide +kernel)).trans ((lk_past (by decide +kernel)).trans ((lk_past (by decide +kernel)).trans ((lk_past (by decide +kernel)).trans ((lk_past (by decide +kernel)).trans (rfl)))))))
theorem nm_Net_advance {x0 x1 x2 x3 x4 x5 x6 : V} : (fNet x0 x1 x2 x3 x4 x5 x6).lookup ("advance" : Str) = none := (lk_past (by decide +kernel)).trans ((lk_past (by decide +kernel)).trans ((lk_past (by decide +kernel)).trans ((lk_past (by decide +kernel)).trans ((lk_past (by decide +kernel)).trans ((lk_past (by decide +kernel)).trans ((lk_past (by decide +kernel)).trans (rfl)))))))
theorem nm_Net_add_packet {x0 x1 x2 x3 x4 x5 x6 : V} : (fNet x0 x1 x2 x3 x4 x5 x6).lookup ("add_packet" : Str) = none := (lk_past (by decide +kernel)).trans ((lk_past (by decide +kernel)).trans ((lk_past (by decide +kernel)).trans ((lk_past (by decide +kernel)).trans ((lk_past (by decide +kernel)).trans ((lk_past (by decide +kernel)).trans ((lk_past (by decide +kernel)).trans (rfl)))))))
theorem nw_Net_0 {x0 x1 x2 x3 x4 x5 x6 : V} : putF "world" x0 ([] : List (Str × V)) = ([("world", x0)] : List (Str × V)) := put_end
theorem nw_Net_1 {x0 x1 x2 x3 x4 x5 x6 : V} : putF "tick" x1 ([("world", x0)] : List (Str × V)) = ([("world", x0), ("tick", x1)] : List (Str × V)) := (put_past (by decide +kernel)).trans (congrArg _ (put_end))
theorem nw_Net_2 {x0 x1 x2 x3 x4 x5 x6 : V} : putF "kept" x2 ([("world", x0), ("tick", x1)] : List (Str × V)) = ([("world", x0), ("tick", x1), ("kept", x2)] : List (Str × V)) := (put_past (by decide +kernel)).trans (congrArg _ ((put_past (by decide +kernel)).trans (congrArg _ (put_end))))
theorem nw_Net_3 {x0 x1 x2 x3 x4 x5 x6 : V} : putF "clients" x3 ([("world", x0), ("tick", x1), ("kept", x2)] : List (Str × V)) = ([("world", x0), ("tick", x1), ("kept", x2), ("clients", x3)] : List (Str × V)) := (put_past (by decide +kernel)).trans (congrArg _ ((put_past (by decide +kernel)).trans (congrArg _ ((put_past (by decide +kernel)).trans (congrArg _ (put_end))))))
theorem nw_Net_4 {x0 x1 x2 x3 x4 x5 x6 : V} : putF "peers" x4 ([("world", x0), ("tick", x1), ("kept", x2), ("clients", x3)] : List (Str × V)) = ([("world", x0), ("tick", x1), ("kept", x2), ("clients", x3), ("peers", x4)] : List (Str × V)) := (put_past (by decide +kernel)).trans (congrArg _ ((put_past (by decide +kernel)).trans (congrArg _ ((put_past (by decide +kernel)).trans (congrArg _ ((put_past (by decide +kernel)).trans (congrArg _ (put_end))))))))
theorem nw_Net_5 {x0 x1 x2 x3 x4 x5 x6 : V} : putF "packets" x5 ([("world", x0), ("tick", x1), ("kept", x2), ("clients", x3), ("peers", x4)] : List (Str × V)) = ([("world", x0), ("tick", x1), ("kept", x2), ("clients", x3), ("peers", x4), ("packets", x5)] : List (Str × V)) := (put_past (by decide +kernel)).trans (congrArg _ ((put_past (by decide +kernel)).trans (congrArg _ ((put_past (by decide +kernel)).trans (congrArg _ ((put_past (by decide +kernel)).trans (congrArg _ ((put_past (by decide +kernel)).trans (congrArg _ (put_end))))))))))
theorem nw_Net_6 {x0 x1 x2 x3 x4 x5 x6 : V} : putF "drift" x6 ([("world", x0), ("tick", x1), ("kept", x2), ("clients", x3), ("peers", x4), ("packets", x5)] : List (Str × V)) = ([("world", x0), ("tick", x1), ("kept", x2), ("clients", x3), ("peers", x4), ("packets", x5), ("drift", x6)] : List (Str × V)) := (put_past (by decide +kernel)).trans (congrArg _ ((put_past (by decide +kernel)).trans (congrArg _ ((put_past (by decide +kernel)).trans (congrArg _ ((put_past (by decide +kernel)).trans (congrArg _ ((put_past (by decide +kernel)).trans (congrArg _ ((put_past (by decide +kernel)).trans (congrArg _ (put_end))))))))))))
def fShot (x0 x1 x2 x3 x4 : V) : List (Str × V) := [("x", x0), ("y", x1), ("dx", x2), ("dy", x3), ("squared_step", x4)]
theorem lk_Shot_x {x0 x1 x2 x3 x4 : V} : (fShot x0 x1 x2 x3 x4).lookup ("x" : Str) = some x0 := lk_here
theorem pf_Shot_x {x0 x1 x2 x3 x4 : V} {y : V} : putF "x" y (fShot x0 x1 x2 x3 x4) = fShot y x1 x2 x3 x4 := put_here
theorem lk_Shot_y {x0 x1 x2 x3 x4 : V} : (fShot x0 x1 x2 x3 x4).lookup ("y" : Str) = some x1 := (lk_past (by decide +kernel)).trans (lk_here)
theorem pf_Shot_y {x0 x1 x2 x3 x4 : V} {y : V} : putF "y" y (fShot x0 x1 x2 x3 x4) = fShot x0 y x2 x3 x4 := (put_past (by decide +kernel)).trans (congrArg _ (put_here))
theorem lk_Shot_dx {x0 x1 x2 x3 x4 : V} : (fShot x0 x1 x2 x3 x4).lookup ("dx" : Str) = some x2 := (lk_past (by decide +kernel)).trans ((lk_past (by decide +kernel)).trans (lk_here))
theorem pf_Shot_dx {x0 x1 x2 x3 x4 : V} {y : V} : putF "dx" y (fShot x0 x1 x2 x3 x4) = fShot x0 x1 y x3 x4 := (put_past (by decide +kernel)).trans (congrArg _ ((put_past (by decide +kernel)).trans (congrArg _ (put_here))))
theorem lk_Shot_dy {x0 x1 x2 x3 x4 : V} : (fShot x0 x1 x2 x3 x4).lookup ("dy" : Str) = some x3 := (lk_past (by decide +kernel)).trans ((lk_past (by decide +kernel)).trans ((lk_past (by decide +kernel)).trans (lk_here)))
theorem pf_Shot_dy {x0 x1 x2 x3 x4 : V} {y : V} : putF "dy" y (fShot x0 x1 x2 x3 x4) = fShot x0 x1 x2 y x4 := (put_past (by decide +kernel)).trans (congrArg _ ((put_past (by decide +kernel)).trans (congrArg _ ((put_past (by decide +kernel)).trans (congrArg _ (put_here))))))
theorem lk_Shot_squared_step {x0 x1 x2 x3 x4 : V} : (fShot x0 x1 x2 x3 x4).lookup ("squared_step" : Str) = some x4 := (lk_past (by decide +kernel)).trans ((lk_past (by decide +kernel)).trans ((lk_past (by decide +kernel)).trans ((lk_past (by decide +kernel)).trans (lk_here))))
theorem pf_Shot_squared_step {x0 x1 x2 x3 x4 : V} {y : V} : putF "squared_step" y (fShot x0 x1 x2 x3 x4) = fShot x0 x1 x2 x3 y := (put_past (by decide +kernel)).trans (congrArg _ ((put_past (by decide +kernel)).trans (congrArg _ ((put_past (by decide +kernel)).trans (congrArg _ ((put_past (by decide +kernel)).trans (congrArg _ (put_here))))))))
theorem nm_Shot_way_to {x0 x1 x2 x3 x4 : V} : (fShot x0 x1 x2 x3 x4).lookup ("way_to" : Str) = none := (lk_past (by decide +kernel)).trans ((lk_past (by decide +kernel)).trans ((lk_past (by decide +kernel)).trans ((lk_past (by decide +kernel)).trans ((lk_past (by decide +kernel)).trans (rfl)))))
theorem nm_Shot_meets {x0 x1 x2 x3 x4 : V} : (fShot x0 x1 x2 x3 x4).lookup ("meets" : Str) = none := (lk_past (by decide +kernel)).trans ((lk_past (by decide +kernel)).trans ((lk_past (by decide +kernel)).trans ((lk_past (by decide +kernel)).trans ((lk_past (by decide +kernel)).trans (rfl)))))
theorem nw_Shot_0 {x0 x1 x2 x3 x4 : V} : putF "x" x0 ([] : List (Str × V)) = ([("x", x0)] : List (Str × V)) := put_end
theorem nw_Shot_1 {x0 x1 x2 x3 x4 : V} : putF "y" x1 ([("x", x0)] : List (Str × V)) = ([("x", x0), ("y", x1)] : List (Str × V)) := (put_past (by decide +kernel)).trans (congrArg _ (put_end))
theorem nw_Shot_2 {x0 x1 x2 x3 x4 : V} : putF "dx" x2 ([("x", x0), ("y", x1)] : List (Str × V)) = ([("x", x0), ("y", x1), ("dx", x2)] : List (Str × V)) := (put_past (by decide +kernel)).trans (congrArg _ ((put_past (by decide +kernel)).trans (congrArg _ (put_end))))
theorem nw_Shot_3 {x0 x1 x2 x3 x4 : V} : putF "dy" x3 ([("x", x0), ("y", x1), ("dx", x2)] : List (Str × V)) = ([("x", x0), ("y", x1), ("dx", x2), ("dy", x3)] : List (Str × V)) := (put_past (by decide +kernel)).trans (congrArg _ ((put_past (by decide +kernel)).trans (congrArg _ ((put_past (by decide +kernel)).trans (congrArg _ (put_end))))))
theorem nw_Shot_4 {x0 x1 x2 x3 x4 : V} : putF "squared_step" x4 ([("x", x0), ("y", x1), ("dx", x2), ("dy", x3)] : List (Str × V)) = ([("x", x0), ("y", x1), ("dx", x2), ("dy", x3), ("squared_step", x4)] : List (Str × V)) := (put_past (by decide +kernel)).trans (congrArg _ ((put_past (by decide +kernel)).trans (congrArg _ ((put_past (by decide +kernel)).trans (congrArg _ ((put_past (by decide +kernel)).trans (congrArg _ (put_end))))))))
end MN
set_option Elab.async false
set_option maxRecDepth 100000
set_option maxHeartbeats 2000000
set_option linter.unusedVariables false
namespace MN
open PySem PySem.Spec PyProof.Rows L2
open Vbwsah (Frac)
variable {P : Program} {w : World} {K : PySem.W.Frag} {mg : Str → Option Value} {base : Heap} {Z : Cs}
/-! ### fractions in least terms -/
def spGcd : Sp := fun vs H Q _ => ∃ a b : Nat, vs = [.int (a : Int), .int (b : Int)] ∧ Q (.int ((Nat.gcd a b : Nat) : Int)) H
theorem ok_greatest_divisor (T : Txt K mg Z) : DefOk P w K mg base 1 "greatest_divisor" ["one", "other"] spGcd := by
  refine T.f_greatest_divisor.ok sc_greatest_divisor (fun vs H Q E h => ?_) (fun f cdv A outer s H vs Q E hr h => ⟨_, (pss_cons (ps_while PassesOwn.never (pt_cmpR op_ne (pv 1) pe_int (nomark _)) (pss_cons (ps_set (i := 2) sc_greatest_divisor.nd rfl (Or.inl rfl) (pe_op op_mod (pv 0) (pv 1)))
      (pss_cons (ps_set (i := 0) sc_greatest_divisor.nd rfl (Or.inl rfl) (pv 1))
      (pss_one (ps_set (i := 1) sc_greatest_divisor.nd rfl (Or.inl rfl) (pv 2))))))
      (pss_one (ps_ret (pv 0)))), ?_⟩)
  · obtain ⟨a, b, rfl, _⟩ := h; rfl
  · obtain ⟨a, b, rfl, q⟩ := h
    refine ⟨fun m σ H' => H' = H ∧ ∃ (x y : Nat) (v : Option V), σ = [some (.int (x : Int)), some (.int (y : Int)), v] ∧ m = y ∧ Nat.gcd x y = Nat.gcd a b, ⟨b, rfl, a, b, none, rfl, rfl, rfl⟩, ?_⟩
    rintro m σ H' ⟨rfl, x, y, v, rfl, rfl, e⟩
    refine ⟨_, rfl, rfl, _, rfl, ?_⟩
    by_cases c : m = 0
    · subst c
      have e1 : decide (V.int ((0 : Nat) : Int) = V.int 0) = true := decide_eq_true rfl
      rw [e1]
      refine iteF ⟨_, rfl, ?_⟩
      rw [← e, Nat.gcd_zero_right] at q
      exact q
    · have e1 : decide (V.int (m : Int) = V.int 0) = false := decide_eq_false (fun z => c (by have := V.int.inj z; omega))
      rw [e1]
      refine iteT ⟨_, fun _ _ h => h, ?_⟩
      refine ⟨_, rfl, _, rfl, _, _, rfl, rfl, (by omega), ?_⟩
      refine ⟨_, rfl, _, rfl, x % m, Nat.mod_lt _ (by omega), rfl, m, x % m, _, rfl, rfl, ?_⟩
      rw [← e, Nat.gcd_comm x m, Nat.gcd_rec m x, Nat.gcd_comm]
theorem made_row {u l : Int} (h : 0 < l) : Vbwsah.fracRow (Frac.made u l) = [u / ((Int.gcd u l : Nat) : Int), l / ((Int.gcd u l : Nat) : Int)] := by
  unfold Vbwsah.fracRow Frac.made
  rw [if_neg (by omega), if_pos h]
  have h2 : 0 ≤ l / ((Int.gcd u l : Nat) : Int) := Int.ediv_nonneg (by omega) (by omega)
  show [_, (((l / ((Int.gcd u l : Nat) : Int)).toNat : Nat) : Int)] = _
  rw [Int.toNat_of_nonneg h2]
def fracV (f : Frac) : List V := (Vbwsah.fracRow f).map V.int
def spLeast : Sp := fun vs H Q _ => ∃ u l : Int, vs = [.int u, .int l] ∧ 0 < l ∧ l < 2 ^ 60 ∧ ∀ p, H p = none → Q (.ref p) (upd H p (.lst (fracV (Frac.made u l))))
theorem ok_least_terms (T : Txt K mg Z) : DefOk P w K mg base 2 "least_terms" ["upper", "lower"] spLeast := by
  refine T.f_least_terms.ok sc_least_terms (fun vs H Q E h => ?_) (fun f cdv A outer s H vs Q E hr h => ⟨_, (pss_cons (ps_set (i := 2) sc_least_terms.nd rfl (Or.inl rfl) (pe_def (ok_greatest_divisor T) hr (pa_cons (pe_callB call_abs (by rfl) T.n_abs (by decide +kernel) (pa_cons (pv 0) pa_nil)) (pa_cons (pv 1) pa_nil))))
      (pss_one (ps_ret (pe_lst (pa_cons (pe_op op_fdivW (pv 0) (pv 2)) (pa_cons (pe_op op_fdivW (pv 1) (pv 2)) pa_nil)))))), ?_⟩)
  · obtain ⟨u, l, rfl, _⟩ := h; rfl
  · obtain ⟨u, l, rfl, h0, h1, q⟩ := h
    have ea : (if u < 0 then -u else u) = ((u.natAbs : Nat) : Int) := by split <;> omega
    have el : l = ((l.natAbs : Nat) : Int) := by omega
    refine ⟨_, rfl, _, rfl, _, rfl, u.natAbs, l.natAbs, by rw [← el, ea]; rfl, ?_⟩
    have eg : Nat.gcd u.natAbs l.natAbs = Int.gcd u l := rfl
    rw [eg]
    have hg : 0 < Int.gcd u l := by
      rw [← eg]
      exact Nat.gcd_pos_of_pos_right _ (by omega)
    have hg2 : Int.gcd u l ≤ l.natAbs := by
      rw [← eg]
      exact Nat.gcd_le_right _ (by omega)
    have cd : ∀ i : Int, CDivW i ((Int.gcd u l : Nat) : Int) := fun i => wide_div (b := 60) (by omega) (by omega) (by decide) (by decide)
    refine ⟨_, rfl, _, rfl, _, _, rfl, rfl, cd _, _, rfl, _, rfl, _, _, rfl, rfl, cd _, ?_⟩
    refine ⟨(by show 2 ≤ sizeLine; decide), fun p hp => ?_⟩
    have e := q p hp
    unfold fracV at e
    rw [made_row h0] at e
    exact e
end MN
set_option Elab.async false
set_option maxRecDepth 100000
set_option maxHeartbeats 2000000
set_option linter.unusedVariables false
namespace MN
open PySem PySem.Spec PyProof.Rows L2
open Vbwsah (Frac)
variable {P : Program} {w : World} {K : PySem.W.Frag} {mg : Str → Option Value} {base : Heap} {Z : Cs}
/-! ### bounds of a clock: objects that never change -/
abbrev oBounds (Z : Cs) (dx : Addr) (t m j : Int) : HO := .ins Z.Bounds dx (fBounds (.int t) (.int m) (.int j))
def spBoundsInit (Z : Cs) : Sp := fun vs H Q _ => ∃ (x dx : Addr) (t m j : V), vs = [.ref x, t, m, j] ∧ H x = some (.ins Z.Bounds dx []) ∧ Q .non (upd H x (.ins Z.Bounds dx (fBounds t m j)))
theorem mk_Bounds (T : Txt K mg Z) : MakeOk P w K mg base Z.Bounds 1 "Bounds" ["self", "time", "lo", "hi"] (spBoundsInit Z) := by
  refine T.f_Bounds___init__.ok sc_Bounds___init__ (fun vs H Q E h => ?_) (fun f cdv A outer s H vs Q E hr h => ⟨_, (pss_cons (ps_fld (pv 0) (pv 1) rfl)
      (pss_cons (ps_fld (pv 0) (pv 2) rfl)
      (pss_one (ps_fld (pv 0) (pv 3) rfl)))), ?_⟩)
  · obtain ⟨x, dx, c, t, i, rfl, _⟩ := h; rfl
  · obtain ⟨x, dx, c, t, i, rfl, hx, q⟩ := h
    refine ⟨_, rfl, _, rfl, x, Z.Bounds, dx, _, rfl, hx, T.cl_Bounds, T.na_Bounds_time, (by show 0 < 1000; decide), ?_⟩
    refine ⟨_, rfl, _, rfl, x, Z.Bounds, dx, _, rfl, upd_same, T.cl_Bounds, T.na_Bounds_lo, (by show 1 < 1000; decide), ?_⟩
    refine ⟨_, rfl, _, rfl, x, Z.Bounds, dx, _, rfl, upd_same, T.cl_Bounds, T.na_Bounds_hi, (by show 2 < 1000; decide), ?_⟩
    rw [upd_upd, upd_upd]
    exact q
/-- a new Bounds object comes back -/
def NewB (Z : Cs) (H : Hp) (t m j : Int) (Q : VK) : Prop := ∀ H' p dp, Same H H' → H p = none → H' p = some (oBounds Z dp t m j) → Q (.ref p) H'
theorem NewB.made {H : Hp} {t m j : Int} {Q : VK} (q : NewB Z H t m j Q) {p dp : Addr} (hp : H p = none) (hd : H dp = none) : Q (.ref p) (upd (upd (upd H dp (.own p)) p (.ins Z.Bounds dp [])) p (oBounds Z dp t m j)) :=
  q _ p dp (MN.Same.mut (MN.Same.mut (Same.new hd) hp) hp) hp upd_same
def spLater (Z : Cs) : Sp := fun vs H Q _ => ∃ (a dx : Addr) (t d t0 m j : Int), vs = [.ref a, .int t, .int d] ∧ H a = some (oBounds Z dx t0 m j) ∧ 0 ≤ d ∧ d ≤ 500 ∧ NewB Z H t (m - (t - t0) * d) (j + (t - t0) * d) Q
theorem ok_Bounds_later (T : Txt K mg Z) : MethOk P w K mg base Z.Bounds 3 "later" ["self", "time", "drift"] (spLater Z) := by
  refine T.f_Bounds_later.ok sc_Bounds_later (fun vs H Q E h => ?_) (fun f cdv A outer s H vs Q E hr h => ⟨_, (pss_cons (ps_set (i := 3) sc_Bounds_later.nd rfl (Or.inl rfl) (pe_op op_mul (pe_op op_sub (pv 1) (pe_fld (pv 0) rfl)) (pv 2)))
      (pss_one (ps_ret (pe_new (mk_Bounds T) hr (pa_cons (pv 1) (pa_cons (pe_op op_sub (pe_fld (pv 0) rfl) (pv 3)) (pa_cons (pe_op op_add (pe_fld (pv 0) rfl) (pv 3)) pa_nil))))))), ?_⟩)
  · obtain ⟨a, dx, t, d, t0, m, j, rfl, _⟩ := h; rfl
  · obtain ⟨a, dx, t, d, t0, m, j, rfl, ha, d0, d1, q⟩ := h
    refine ⟨_, rfl, _, rfl, a, Z.Bounds, dx, _, _, rfl, ha, T.cl_Bounds, T.na_Bounds_time, lk_Bounds_time, _, _, rfl, rfl, _, rfl, _, _, rfl, rfl, .inr ⟨by omega, by omega⟩, ?_⟩
    refine ⟨_, rfl, _, rfl, a, Z.Bounds, dx, _, _, rfl, ha, T.cl_Bounds, T.na_Bounds_lo, lk_Bounds_lo, _, rfl, _, _, rfl, rfl, ?_⟩
    refine ⟨_, rfl, a, Z.Bounds, dx, _, _, rfl, ha, T.cl_Bounds, T.na_Bounds_hi, lk_Bounds_hi, _, rfl, _, _, rfl, rfl, ?_⟩
    intro p dp hp hd ne
    exact ⟨p, dp, _, _, _, rfl, upd_same, ⟨rfl, q.made hp hd⟩⟩
def spTold (Z : Cs) : Sp := fun vs H Q _ => ∃ (a dx : Addr) (t m j : Int), vs = [.ref a] ∧ H a = some (oBounds Z dx t m j) ∧ ∀ H' p, Same H H' → H p = none → H' p = some (.lst (fracV (Frac.made m 1000) ++ fracV (Frac.made j 1000))) → Q (.ref p) H'
theorem fracV_len (f : Frac) : (fracV f).length = 2 := rfl
theorem ok_Bounds_told (T : Txt K mg Z) : MethOk P w K mg base Z.Bounds 3 "told" ["self"] (spTold Z) := by
  refine T.f_Bounds_told.ok sc_Bounds_told (fun vs H Q E h => ?_) (fun f cdv A outer s H vs Q E hr h => ⟨_, (pss_one (ps_ret (pe_op op_cat (pe_def (ok_least_terms T) hr (pa_cons (pe_fld (pv 0) rfl) (pa_cons (pe_gc T.c_PARTS) pa_nil))) (pe_def (ok_least_terms T) hr (pa_cons (pe_fld (pv 0) rfl) (pa_cons (pe_gc T.c_PARTS) pa_nil)))))), ?_⟩)
  · obtain ⟨a, dx, t, m, j, rfl, _⟩ := h; rfl
  · obtain ⟨a, dx, t, m, j, rfl, ha, q⟩ := h
    refine ⟨_, rfl, a, Z.Bounds, dx, _, _, rfl, ha, T.cl_Bounds, T.na_Bounds_lo, lk_Bounds_lo, m, 1000, rfl, by decide, by decide, fun p1 h1 => ?_⟩
    have s1 : Same H (upd H p1 (.lst (fracV (Frac.made m 1000)))) := Same.new h1
    refine ⟨_, rfl, a, Z.Bounds, dx, _, _, rfl, s1 _ _ ha, T.cl_Bounds, T.na_Bounds_hi, lk_Bounds_hi, j, 1000, rfl, by decide, by decide, fun p2 h2 => ?_⟩
    have n12 : p1 ≠ p2 := ne_of_none upd_same h2
    have s2 := s1.trans (Same.new (o := .lst (fracV (Frac.made j 1000))) h2)
    refine ⟨p1, p2, _, _, rfl, rfl, by rw [upd_ne n12]; exact upd_same, upd_same, by rw [fracV_len, fracV_len]; decide, fun p h3 => ?_⟩
    exact q _ p (s2.trans (Same.new h3)) (s2.free h3) upd_same
def spBoundsEx (Z : Cs) : Sp := fun vs H Q _ => ∃ a s b d : Int, vs = [.int a, .int s, .int b, .int d] ∧ 0 ≤ d ∧ d ≤ 500 ∧ NewB Z H b ((s - b) * 1000) ((s - a) * 1000 + (b - a) * d) Q
theorem ok_bounds_of_exchange (T : Txt K mg Z) : DefOk P w K mg base 3 "bounds_of_exchange" ["a", "s", "b", "drift"] (spBoundsEx Z) := by
  refine T.f_bounds_of_exchange.ok sc_bounds_of_exchange (fun vs H Q E h => ?_) (fun f cdv A outer s H vs Q E hr h => ⟨_, (pss_one (ps_ret (pe_new (mk_Bounds T) hr (pa_cons (pv 2) (pa_cons (pe_op op_mul (pe_op op_sub (pv 1) (pv 2)) (pe_gc T.c_PARTS)) (pa_cons (pe_op op_add (pe_op op_mul (pe_op op_sub (pv 1) (pv 0)) (pe_gc T.c_PARTS)) (pe_op op_mul (pe_op op_sub (pv 2) (pv 0)) (pv 3))) pa_nil)))))), ?_⟩)
  · obtain ⟨a, s, b, d, rfl, _⟩ := h; rfl
  · obtain ⟨a, s, b, d, rfl, d0, d1, q⟩ := h
    refine ⟨_, rfl, _, rfl, _, rfl, _, _, rfl, rfl, _, _, rfl, rfl, .inr ⟨by decide, by decide⟩, ?_⟩
    refine ⟨_, rfl, _, rfl, _, _, rfl, rfl, _, _, rfl, rfl, .inr ⟨by decide, by decide⟩, ?_⟩
    refine ⟨_, rfl, _, rfl, _, _, rfl, rfl, _, rfl, _, _, rfl, rfl, .inr ⟨by omega, by omega⟩, _, _, rfl, rfl, ?_⟩
    intro p dp hp hd ne
    exact ⟨p, dp, _, _, _, rfl, upd_same, ⟨rfl, q.made hp hd⟩⟩
def spBoth (Z : Cs) : Sp := fun vs H Q _ => ∃ (a c da dc : Addr) (t0 m1 j1 t m2 j2 m3 j3 : Int), vs = [.ref a, .ref c] ∧ H a = some (oBounds Z da t0 m1 j1) ∧ H c = some (oBounds Z dc t m2 j2) ∧ m3 = (if m1 ≤ m2 then m2 else m1) ∧ j3 = (if j1 ≤ j2 then j1 else j2) ∧
  (j3 < m3 → Q .non H) ∧ (¬ j3 < m3 → NewB Z H t m3 j3 Q)
theorem ok_both_together (T : Txt K mg Z) : DefOk P w K mg base 3 "both_together" ["old", "new"] (spBoth Z) := by
  refine T.f_both_together.ok sc_both_together (fun vs H Q E h => ?_) (fun f cdv A outer s H vs Q E hr h => ⟨_, (pss_cons (ps_set (i := 2) sc_both_together.nd rfl (Or.inl rfl) (pe_callB (call_max2 rfl) (by rfl) T.n_max (by decide +kernel) (pa_cons (pe_fld (pv 0) rfl) (pa_cons (pe_fld (pv 1) rfl) pa_nil))))
      (pss_cons (ps_set (i := 3) sc_both_together.nd rfl (Or.inl rfl) (pe_callB (call_min2 rfl) (by rfl) T.n_min (by decide +kernel) (pa_cons (pe_fld (pv 0) rfl) (pa_cons (pe_fld (pv 1) rfl) pa_nil))))
      (pss_cons (ps_if (pt_cmpR op_gt (pv 2) (pv 3) (nomark _)) (pss_one (ps_ret pe_non)) pss_nil)
      (pss_one (ps_ret (pe_new (mk_Bounds T) hr (pa_cons (pe_fld (pv 1) rfl) (pa_cons (pv 2) (pa_cons (pv 3) pa_nil))))))))), ?_⟩)
  · obtain ⟨a, c, da, dc, t0, m1, j1, t, m2, j2, m3, j3, rfl, _⟩ := h; rfl
  · obtain ⟨a, c, da, dc, t0, m1, j1, t, m2, j2, m3, j3, rfl, ha, hc, e3, e4, q0, q1⟩ := h
    refine ⟨_, rfl, a, Z.Bounds, da, _, _, rfl, ha, T.cl_Bounds, T.na_Bounds_lo, lk_Bounds_lo, _, rfl, c, Z.Bounds, dc, _, _, rfl, hc, T.cl_Bounds, T.na_Bounds_lo, lk_Bounds_lo, _, _, rfl, ?_⟩
    have f3 : (if m2 > m1 then m2 else m1) = m3 := by rw [e3]; split <;> split <;> omega
    rw [f3]
    refine ⟨_, rfl, a, Z.Bounds, da, _, _, rfl, ha, T.cl_Bounds, T.na_Bounds_hi, lk_Bounds_hi, _, rfl, c, Z.Bounds, dc, _, _, rfl, hc, T.cl_Bounds, T.na_Bounds_hi, lk_Bounds_hi, _, _, rfl, ?_⟩
    have f4 : (if j2 < j1 then j2 else j1) = j3 := by rw [e4]; split <;> split <;> omega
    rw [f4]
    refine ⟨_, rfl, _, rfl, _, _, rfl, rfl, _, rfl, ?_⟩
    by_cases c0 : j3 < m3
    · rw [decide_eq_true c0]
      exact iteT (q0 c0)
    · rw [decide_eq_false c0]
      refine iteF ⟨_, rfl, c, Z.Bounds, dc, _, _, rfl, hc, T.cl_Bounds, T.na_Bounds_time, lk_Bounds_time, _, rfl, _, rfl, ?_⟩
      intro p dp hp hd ne
      exact ⟨p, dp, _, _, _, rfl, upd_same, ⟨rfl, (q1 c0).made hp hd⟩⟩
end MN
set_option Elab.async false
set_option maxRecDepth 100000
set_option maxHeartbeats 2000000
set_option linter.unusedVariables false
namespace MN
open PySem PySem.Spec PyProof.Rows L2
open Vbwsae (Change)
variable {P : Program} {w : World} {K : PySem.W.Frag} {mg : Str → Option Value} {base : Heap} {Z : Cs}
/-! ### packets made -/
def spUpInit (Z : Cs) : Sp := fun vs H Q _ => ∃ (x dx : Addr) (c t i : V), vs = [.ref x, c, t, i] ∧ H x = some (.ins Z.Up dx []) ∧ Q .non (upd H x (.ins Z.Up dx (fUp c t i)))
theorem mk_Up (T : Txt K mg Z) : MakeOk P w K mg base Z.Up 1 "Up" ["self", "client", "tick", "inputs"] (spUpInit Z) := by
  refine T.f_Up___init__.ok sc_Up___init__ (fun vs H Q E h => ?_) (fun f cdv A outer s H vs Q E hr h => ⟨_, (pss_cons (ps_fld (pv 0) (pv 1) rfl)
      (pss_cons (ps_fld (pv 0) (pv 2) rfl)
      (pss_one (ps_fld (pv 0) (pv 3) rfl)))), ?_⟩)
  · obtain ⟨x, dx, c, t, i, rfl, _⟩ := h; rfl
  · obtain ⟨x, dx, c, t, i, rfl, hx, q⟩ := h
    refine ⟨_, rfl, _, rfl, x, Z.Up, dx, _, rfl, hx, T.cl_Up, T.na_Up_client, (by show 0 < 1000; decide), ?_⟩
    refine ⟨_, rfl, _, rfl, x, Z.Up, dx, _, rfl, upd_same, T.cl_Up, T.na_Up_tick, (by show 1 < 1000; decide), ?_⟩
    refine ⟨_, rfl, _, rfl, x, Z.Up, dx, _, rfl, upd_same, T.cl_Up, T.na_Up_inputs, (by show 2 < 1000; decide), ?_⟩
    rw [upd_upd, upd_upd]
    exact q
def spDownInit (Z : Cs) : Sp := fun vs H Q _ => ∃ (x dx : Addr) (c t b ch : V), vs = [.ref x, c, t, b, ch] ∧ H x = some (.ins Z.Down dx []) ∧ Q .non (upd H x (.ins Z.Down dx (fDown c t b ch)))
theorem mk_Down (T : Txt K mg Z) : MakeOk P w K mg base Z.Down 1 "Down" ["self", "client", "tick", "base", "changes"] (spDownInit Z) := by
  refine T.f_Down___init__.ok sc_Down___init__ (fun vs H Q E h => ?_) (fun f cdv A outer s H vs Q E hr h => ⟨_, (pss_cons (ps_fld (pv 0) (pv 1) rfl)
      (pss_cons (ps_fld (pv 0) (pv 2) rfl)
      (pss_cons (ps_fld (pv 0) (pv 3) rfl)
      (pss_one (ps_fld (pv 0) (pv 4) rfl))))), ?_⟩)
  · obtain ⟨x, dx, c, t, b, ch, rfl, _⟩ := h; rfl
  · obtain ⟨x, dx, c, t, b, ch, rfl, hx, q⟩ := h
    refine ⟨_, rfl, _, rfl, x, Z.Down, dx, _, rfl, hx, T.cl_Down, T.na_Down_client, (by show 0 < 1000; decide), ?_⟩
    refine ⟨_, rfl, _, rfl, x, Z.Down, dx, _, rfl, upd_same, T.cl_Down, T.na_Down_tick, (by show 1 < 1000; decide), ?_⟩
    refine ⟨_, rfl, _, rfl, x, Z.Down, dx, _, rfl, upd_same, T.cl_Down, T.na_Down_base, (by show 2 < 1000; decide), ?_⟩
    refine ⟨_, rfl, _, rfl, x, Z.Down, dx, _, rfl, upd_same, T.cl_Down, T.na_Down_changes, (by show 3 < 1000; decide), ?_⟩
    rw [upd_upd, upd_upd, upd_upd]
    exact q
/-! ### a client's own side -/
abbrev oClient (Z : Cs) (dx : Addr) (n b lt : Int) (wd : Addr) (im : Int) (idd : Addr) (bo : V) : HO := .ins Z.Client dx (fClient (.int n) (.int b) (.int lt) (.ref wd) (.int im) (.ref idd) bo)
def spClientInit (Z : Cs) : Sp := fun vs H Q _ => ∃ (x dx : Addr) (n b : Int), vs = [.ref x, .int n, .int b] ∧ H x = some (.ins Z.Client dx []) ∧
  ∀ wd idd, H wd = none → H idd = none → wd ≠ idd → Q .non (upd (upd (upd H wd (.dK [])) idd (.dK [])) x (oClient Z dx n b 0 wd 0 idd .non))
theorem upd_comm {H : Hp} {a b : Addr} {o u : HO} (h : a ≠ b) : upd (upd H a o) b u = upd (upd H b u) a o := by
  funext c
  unfold upd
  by_cases h1 : c = b
  · by_cases h2 : c = a
    · exact absurd (h2.symm.trans h1) h
    · rw [if_pos h1, if_neg h2, if_pos h1]
  · by_cases h2 : c = a
    · rw [if_neg h1, if_pos h2, if_pos h2]
    · rw [if_neg h1, if_neg h2, if_neg h2, if_neg h1]
theorem mk_Client (T : Txt K mg Z) : MakeOk P w K mg base Z.Client 1 "Client" ["self", "number", "body"] (spClientInit Z) := by
  refine T.f_Client___init__.ok sc_Client___init__ (fun vs H Q E h => ?_) (fun f cdv A outer s H vs Q E hr h => ⟨_, (pss_cons (ps_fld (pv 0) (pv 1) rfl)
      (pss_cons (ps_fld (pv 0) (pv 2) rfl)
      (pss_cons (ps_fld (pv 0) pe_int rfl)
      (pss_cons (ps_fld (pv 0) pe_dnewK rfl)
      (pss_cons (ps_fld (pv 0) pe_int rfl)
      (pss_cons (ps_fld (pv 0) pe_dnewK rfl)
      (pss_one (ps_fld (pv 0) pe_non rfl)))))))), ?_⟩)
  · obtain ⟨x, dx, n, b, rfl, _⟩ := h; rfl
  · obtain ⟨x, dx, n, b, rfl, hx, q⟩ := h
    refine ⟨_, rfl, _, rfl, x, Z.Client, dx, _, rfl, hx, T.cl_Client, T.na_Client_number, (by show 0 < 1000; decide), ?_⟩
    refine ⟨_, rfl, _, rfl, x, Z.Client, dx, _, rfl, upd_same, T.cl_Client, T.na_Client_body, (by show 1 < 1000; decide), ?_⟩
    refine ⟨_, rfl, x, Z.Client, dx, _, rfl, upd_same, T.cl_Client, T.na_Client_last_tick, (by show 2 < 1000; decide), ?_⟩
    rw [upd_upd, upd_upd]
    intro wd hwd
    have hwx : x ≠ wd := ne_of_none upd_same hwd
    refine ⟨_, rfl, x, Z.Client, dx, _, rfl, by rw [upd_ne hwx]; exact upd_same, T.cl_Client, T.na_Client_worlds, (by show 3 < 1000; decide), ?_⟩
    refine ⟨_, rfl, x, Z.Client, dx, _, rfl, upd_same, T.cl_Client, T.na_Client_inputs_made, (by show 4 < 1000; decide), ?_⟩
    rw [upd_upd]
    intro idd hid
    have hix : x ≠ idd := ne_of_none upd_same hid
    refine ⟨_, rfl, x, Z.Client, dx, _, rfl, by rw [upd_ne hix]; exact upd_same, T.cl_Client, T.na_Client_inputs, (by show 5 < 1000; decide), ?_⟩
    refine ⟨_, rfl, x, Z.Client, dx, _, rfl, upd_same, T.cl_Client, T.na_Client_bounds, (by show 6 < 1000; decide), ?_⟩
    rw [upd_upd]
    have h1 : H wd = none := by rw [upd_ne (Ne.symm hwx)] at hwd; exact hwd
    have h3 : wd ≠ idd := by
      intro z
      rw [← z, upd_ne (Ne.symm hwx), upd_same] at hid
      cases hid
    have h2 : H idd = none := by
      rw [upd_ne (Ne.symm hix), upd_ne (Ne.symm h3), upd_ne (Ne.symm hix)] at hid
      exact hid
    have e := q wd idd h1 h2 h3
    rw [upd_comm (a := x) (b := wd) hwx, upd_upd, upd_comm (a := x) (b := idd) hix, upd_upd]
    exact e
def spIsFull (Z : Cs) : Sp := fun vs H Q _ => ∃ (ca dx wd idd : Addr) (bo : V) (n b lt im : Int) (kvs : List (Key × V)), vs = [.ref ca] ∧ H ca = some (oClient Z dx n b lt wd im idd bo) ∧ H idd = some (.dK kvs) ∧ Q (.bl (decide (64 ≤ kvs.length))) H
theorem ok_Client_is_full (T : Txt K mg Z) : MethOk P w K mg base Z.Client 1 "is_full" ["self"] (spIsFull Z) := by
  refine T.f_Client_is_full.ok sc_Client_is_full (fun vs H Q E h => ?_) (fun f cdv A outer s H vs Q E hr h => ⟨_, (pss_one (ps_ret (pe_cmpR op_ge (pe_callB call_lenD (by rfl) T.n_len (by decide +kernel) (pa_cons (pe_fld (pv 0) rfl) pa_nil)) (pe_gc T.c_MOST_INPUTS) (nomark _)))), ?_⟩)
  · obtain ⟨ca, dx, wd, idd, bo, n, b, lt, im, kvs, rfl, _⟩ := h; rfl
  · obtain ⟨ca, dx, wd, idd, bo, n, b, lt, im, kvs, rfl, hc, hi, q⟩ := h
    refine ⟨_, rfl, ca, Z.Client, dx, _, _, rfl, hc, T.cl_Client, T.na_Client_inputs, lk_Client_inputs, idd, kvs, rfl, hi, _, _, rfl, rfl, ?_⟩
    have e : decide ((64 : Int) ≤ (kvs.length : Int)) = decide (64 ≤ kvs.length) := decide_eq_decide.mpr (by omega)
    show Q (.bl (decide ((64 : Int) ≤ (kvs.length : Int)))) H
    rw [e]; exact q
def spMakeInput (Z : Cs) : Sp := fun vs H Q _ => ∃ (ca dx wd idd : Addr) (bo : V) (n b lt im ax ay : Int) (kvs : List (Key × V)), vs = [.ref ca, .int ax, .int ay] ∧ H ca = some (oClient Z dx n b lt wd im idd bo) ∧ H idd = some (.dK kvs) ∧ kvs.length ≤ 1000 ∧
  ∀ t, H t = none → Q (.int (im + 1)) (upd (upd (upd H ca (oClient Z dx n b lt wd (im + 1) idd bo)) t (.tup [.int ax, .int ay])) idd (.dK (putK kvs (ik (im + 1)) (.ref t))))
theorem ok_Client_make_input (T : Txt K mg Z) : MethOk P w K mg base Z.Client 1 "make_input" ["self", "ax", "ay"] (spMakeInput Z) := by
  refine T.f_Client_make_input.ok sc_Client_make_input (fun vs H Q E h => ?_) (fun f cdv A outer s H vs Q E hr h => ⟨_, (pss_cons (ps_fldaug (pv 0) pe_int in_add)
      (pss_cons (ps_dput (hu_of hr) (pe_fld (pv 0) rfl) (pe_fld (pv 0) rfl) (pe_tup (pa_cons (pv 1) (pa_cons (pv 2) pa_nil))) rfl)
      (pss_one (ps_ret (pe_fld (pv 0) rfl))))), ?_⟩)
  · obtain ⟨ca, dx, wd, idd, bo, n, b, lt, im, ax, ay, kvs, rfl, _⟩ := h; rfl
  · obtain ⟨ca, dx, wd, idd, bo, n, b, lt, im, ax, ay, kvs, rfl, hc, hi, hl, q⟩ := h
    have ne1 : idd ≠ ca := ne_of hi hc (fun z => nomatch z)
    refine ⟨_, rfl, ca, Z.Client, dx, _, _, rfl, hc, T.cl_Client, T.na_Client_inputs_made, lk_Client_inputs_made, _, _, rfl, rfl, dx, _, hc, (by show 7 < 1000; decide), ?_⟩
    rw [pf_Client_inputs_made]
    refine ⟨_, rfl, _, rfl, by show 2 ≤ sizeLine; decide, fun t ht => ?_⟩
    have hct : ca ≠ t := ne_of_none upd_same ht
    have hit : idd ≠ t := ne_of_none (by rw [upd_ne ne1]; exact hi) ht
    have ht0 : H t = none := by rw [upd_ne (Ne.symm hct)] at ht; exact ht
    refine ⟨_, rfl, ca, Z.Client, dx, _, _, rfl, by rw [upd_ne hct]; exact upd_same, T.cl_Client, T.na_Client_inputs, lk_Client_inputs, ?_⟩
    refine ⟨_, rfl, ca, Z.Client, dx, _, _, rfl, by rw [upd_ne hct]; exact upd_same, T.cl_Client, T.na_Client_inputs_made, lk_Client_inputs_made, ?_⟩
    refine ⟨idd, _, rfl, DPut.k (k := ik (im + 1)) (kvs := kvs) (by rw [upd_ne hit, upd_ne ne1]; exact hi) (sizeL (by omega)), ?_⟩
    refine ⟨_, rfl, ca, Z.Client, dx, _, _, rfl, by rw [upd_ne (Ne.symm ne1), upd_ne hct]; exact upd_same, T.cl_Client, T.na_Client_inputs_made, lk_Client_inputs_made, ?_⟩
    exact q t ht0
def spMakeUp (Z : Cs) : Sp := fun vs H Q _ => ∃ (ca dx wd idd : Addr) (bo : V) (n b lt im : Int) (kvs : List (Key × V)), vs = [.ref ca] ∧ H ca = some (oClient Z dx n b lt wd im idd bo) ∧ H idd = some (.dK kvs) ∧
  ∀ H' u du ud, Same H H' → H u = none → H ud = none → H' u = some (.ins Z.Up du (fUp (.int n) (.int lt) (.ref ud))) → H' ud = some (.dK kvs) → Q (.ref u) H'
theorem ok_Client_make_up (T : Txt K mg Z) : MethOk P w K mg base Z.Client 3 "make_up" ["self"] (spMakeUp Z) := by
  refine T.f_Client_make_up.ok sc_Client_make_up (fun vs H Q E h => ?_) (fun f cdv A outer s H vs Q E hr h => ⟨_, (pss_one (ps_ret (pe_new (mk_Up T) hr (pa_cons (pe_fld (pv 0) rfl) (pa_cons (pe_fld (pv 0) rfl) (pa_cons (pe_callTy call_dictD (by rfl) T.n_dict (by decide +kernel) (pa_cons (pe_fld (pv 0) rfl) pa_nil)) pa_nil)))))), ?_⟩)
  · obtain ⟨ca, dx, wd, idd, bo, n, b, lt, im, kvs, rfl, _⟩ := h; rfl
  · obtain ⟨ca, dx, wd, idd, bo, n, b, lt, im, kvs, rfl, hc, hi, q⟩ := h
    refine ⟨_, rfl, ca, Z.Client, dx, _, _, rfl, hc, T.cl_Client, T.na_Client_number, lk_Client_number, _, rfl, ca, Z.Client, dx, _, _, rfl, hc, T.cl_Client, T.na_Client_last_tick, lk_Client_last_tick, _, rfl, ca, Z.Client, dx, _, _, rfl, hc, T.cl_Client, T.na_Client_inputs, lk_Client_inputs, idd, kvs, rfl, .inl hi, fun ud hud => ?_⟩
    intro u du hu hdu ne
    have s1 : Same H (upd H ud (.dK kvs)) := Same.new hud
    have hu0 : H u = none := s1.free hu
    have hue : ud ≠ u := ne_of_none upd_same hu
    have hde : ud ≠ du := ne_of_none upd_same hdu
    refine ⟨u, du, _, _, _, rfl, upd_same, ⟨rfl, q _ u du ud ?_ hu0 hud upd_same ?_⟩⟩
    · rw [upd_upd]
      exact MN.Same.mut (MN.Same.mut s1 (s1.free hdu)) hu0
    · rw [upd_upd, upd_ne hue, upd_ne hde]; exact upd_same
def spWorldOf (Z : Cs) : Sp := fun vs H Q _ => ∃ (ca dx wd idd : Addr) (bo : V) (n b lt im t : Int) (kvs : List (Key × V)), vs = [.ref ca, .int t] ∧ H ca = some (oClient Z dx n b lt wd im idd bo) ∧ H wd = some (.dK kvs) ∧
  (t = 0 → ∀ p, H p = none → Q (.ref p) (upd H p (.dK []))) ∧ (t ≠ 0 → ∃ v, valV kvs (ik t) = some v ∧ Q v H)
theorem ok_Client_world_of (T : Txt K mg Z) : MethOk P w K mg base Z.Client 1 "world_of" ["self", "tick"] (spWorldOf Z) := by
  refine T.f_Client_world_of.ok sc_Client_world_of (fun vs H Q E h => ?_) (fun f cdv A outer s H vs Q E hr h => ⟨_, (pss_cons (ps_if (pt_cmpR op_eq (pv 1) pe_int (nomark _)) (pss_one (ps_ret pe_dnewK)) pss_nil)
      (pss_one (ps_ret (pe_dget (hu_of hr) (pe_fld (pv 0) rfl) (pv 1) (fun _ _ => rfl))))), ?_⟩)
  · obtain ⟨ca, dx, wd, idd, bo, n, b, lt, im, t, kvs, rfl, _⟩ := h; rfl
  · obtain ⟨ca, dx, wd, idd, bo, n, b, lt, im, t, kvs, rfl, hc, hw, q0, q1⟩ := h
    refine ⟨_, rfl, rfl, _, rfl, ?_⟩
    by_cases c : t = 0
    · have e : decide (V.int t = V.int 0) = true := decide_eq_true (by rw [c])
      rw [e]
      exact iteT fun p hp => q0 c p hp
    · have e : decide (V.int t = V.int 0) = false := decide_eq_false fun z => c (V.int.inj z)
      rw [e]
      obtain ⟨v, ev, q⟩ := q1 c
      refine iteF ⟨_, rfl, ca, Z.Client, dx, _, _, rfl, hc, T.cl_Client, T.na_Client_worlds, lk_Client_worlds, _, rfl, wd, v, rfl, ?_, q⟩
      rw [← ev]; exact DGet.k (k := ik t) hw
def spForget (Z : Cs) : Sp := fun vs H Q _ => ∃ (ca dx wd idd : Addr) (bo : V) (n b lt im fo : Int) (l : List (Int × Addr)), vs = [.ref ca, .int fo] ∧ H ca = some (oClient Z dx n b lt wd im idd bo) ∧ H idd = some (.dK (encR l)) ∧ l.length ≤ 1000 ∧ (l.map (·.1)).Pairwise (· < ·) ∧
  ∀ H', (∀ b o, H b = some o → b ≠ idd → H' b = some o) → H' idd = some (.dK (encR (l.filter fun p => decide (fo < p.1)))) → Q .non H'
theorem encR_drop {l : List (Int × Addr)} (k : Int) : dropK (encR l) (ik k) = encR (l.filter fun p => decide (p.1 ≠ k)) := by
  unfold dropK encR
  rw [List.filter_map]
  congr 1
  refine List.filter_congr fun p _ => ?_
  show decide (ik p.1 ≠ ik k) = decide (p.1 ≠ k)
  exact decide_eq_decide.mpr ⟨fun h z => h (by rw [z]), fun h => ik_ne h⟩
theorem encR_val {l : List (Int × Addr)} {p : Int × Addr} (nd : (l.map (·.1)).Nodup) (hp : p ∈ l) : valV (encR l) (ik p.1) = some (.ref p.2) := by
  induction l with
  | nil => cases hp
  | cons r l ih =>
    rw [List.map_cons, List.nodup_cons] at nd
    show valV ((ik r.1, V.ref r.2) :: encR l) (ik p.1) = _
    rcases List.mem_cons.mp hp with e | e
    · subst e; exact valV_pos rfl
    · rw [valV_neg]
      · exact ih nd.2 e
      · exact ik_ne fun z => nd.1 (by rw [z]; exact List.mem_map.mpr ⟨p, e, rfl⟩)
theorem lt_nodup {l : List Int} (h : l.Pairwise (· < ·)) : l.Nodup := List.Pairwise.imp (fun {a b} (h : a < b) => by omega) h
theorem ok_Client_forget_inputs (T : Txt K mg Z) : MethOk P w K mg base Z.Client 1 "forget_inputs" ["self", "followed"] (spForget Z) := by
  refine T.f_Client_forget_inputs.ok sc_Client_forget_inputs (fun vs H Q E h => ?_) (fun f cdv A outer s H vs Q E hr h => ⟨_, (pss_one (ps_for PassesOwn.never rfl (pi_list (pe_callTy (call_listD rfl) (by rfl) T.n_list (by decide +kernel) (pa_cons (pe_fld (pv 0) rfl) pa_nil))) (pg_name (i := 2) sc_Client_forget_inputs.nd rfl (Or.inl rfl)) (pss_one (ps_if (pt_cmpR op_le (pv 2) (pv 1) (nomark _)) (pss_one (ps_expr (pe_dpop1 (pe_fld (pv 0) rfl) (pv 2) ⟨rfl, rfl, rfl, rfl⟩))) pss_nil)))), ?_⟩)
  · obtain ⟨ca, dx, wd, idd, bo, n, b, lt, im, fo, l, rfl, _⟩ := h; rfl
  · obtain ⟨ca, dx, wd, idd, bo, n, b, lt, im, fo, l, rfl, hc, hi, hl, hs, q⟩ := h
    have nd := lt_nodup hs
    have ne1 : ca ≠ idd := ne_of hc hi (fun z => nomatch z)
    refine ⟨_, rfl, ca, Z.Client, dx, _, _, rfl, hc, T.cl_Client, T.na_Client_inputs, lk_Client_inputs, idd, encR l, rfl, .inl hi, fun p hp => ?_⟩
    have hpe : idd ≠ p := ne_of_none hi hp
    have eks : (encR l).map (fun kv => kV kv.1) = l.map fun p => V.int p.1 := by
      unfold encR
      rw [List.map_map]; rfl
    rw [eks]
    refine ⟨p, rfl, ⟨_, SqL.of upd_same⟩, for_list (K := K) (a := p) (xs := l.map fun p => V.int p.1) (fun i σ H' => ∃ v : Option V, σ = [some (.ref ca), some (.int fo), v] ∧ (∀ b o, H b = some o → b ≠ idd → H' b = some o) ∧ H' p = some (.lst (l.map fun p => V.int p.1)) ∧
      H' idd = some (.dK (encR ((l.take i).filter (fun p => decide (fo < p.1)) ++ l.drop i)))) ⟨none, rfl, fun b o e _ => Same.new hp b o e, upd_same, ?_⟩ (fun i σ H' _ ⟨_, _, _, h, _⟩ => SqL.of h) ?_ ?_⟩
    · rw [upd_ne hpe]; exact hi
    · rintro i x σ H' hix ⟨v, rfl, fr, hp', hi'⟩
      rw [List.getElem?_map] at hix
      cases er : l[i]? with
      | none => rw [er] at hix; cases hix
      | some r =>
        rw [er] at hix
        cases hix
        have hd : l.drop i = r :: l.drop (i + 1) := by
          obtain ⟨hil, e⟩ := List.getElem?_eq_some_iff.mp er
          rw [← e]; exact List.drop_eq_getElem_cons hil
        have ht := take_snoc er
        refine ⟨_, rfl, _, rfl, _, _, rfl, rfl, _, rfl, ?_⟩
        by_cases c : r.1 ≤ fo
        · rw [decide_eq_true c]
          have hc' := fr _ _ hc ne1
          refine iteT ⟨_, rfl, ca, Z.Client, dx, _, _, rfl, hc', T.cl_Client, T.na_Client_inputs, lk_Client_inputs, idd, rfl, .inl ⟨_, .inl hi'⟩, _, rfl, _, ik r.1, .ref r.2, hi', rfl, ?_, ?_⟩
          · have hsub : ((l.take i).filter (fun p => decide (fo < p.1)) ++ l.drop i).Sublist l := by
              conv => rhs; rw [← List.take_append_drop i l]
              exact List.Sublist.append List.filter_sublist (List.Sublist.refl _)
            refine encR_val (nd.sublist (hsub.map _)) ?_
            rw [hd]; exact List.mem_append_right _ List.mem_cons_self
          · refine ⟨_, rfl, fun b o e nb => by rw [upd_ne nb]; exact fr b o e nb, by rw [upd_ne (Ne.symm hpe)]; exact hp', ?_⟩
            rw [upd_same, encR_drop, ht, hd]
            congr 3
            rw [List.filter_append, List.filter_append, List.filter_cons, if_neg (by simp)]
            have h1 : ((l.take i).filter fun p => decide (fo < p.1)).filter (fun p => decide (p.1 ≠ r.1)) = (l.take i).filter fun p => decide (fo < p.1) := by
              rw [List.filter_eq_self]
              intro x hx
              have hx1 := (List.mem_filter.mp hx).2
              simp at hx1 ⊢
              omega
            have h2 : (l.drop (i + 1)).filter (fun p => decide (p.1 ≠ r.1)) = l.drop (i + 1) := by
              rw [List.filter_eq_self]
              intro x hx
              have hsd : ((r :: l.drop (i + 1)).map (·.1)).Pairwise (· < ·) := by
                rw [← hd]; exact hs.sublist ((List.drop_sublist i l).map _)
              rw [List.map_cons, List.pairwise_cons] at hsd
              have := hsd.1 x.1 (List.mem_map.mpr ⟨x, hx, rfl⟩)
              simp; omega
            have h3 : [r].filter (fun p => decide (fo < p.1)) = [] := by
              rw [List.filter_cons, if_neg (by simp; omega)]; rfl
            rw [h1, h2, h3, List.append_nil]
        · rw [decide_eq_false c]
          refine iteF ⟨_, rfl, fr, hp', ?_⟩
          rw [hi', ht, hd, List.filter_append]
          have h3 : [r].filter (fun p => decide (fo < p.1)) = [r] := by
            rw [List.filter_cons, if_pos (by simp; omega)]; rfl
          rw [h3, List.append_assoc]
          rfl
    · rintro σ H' ⟨v, rfl, fr, hp', hi'⟩
      refine q H' fr ?_
      rw [hi', List.length_map, List.take_length, List.drop_length, List.append_nil]
end MN
set_option Elab.async false
set_option maxRecDepth 100000
set_option maxHeartbeats 2000000
set_option linter.unusedVariables false
namespace MN
open PySem PySem.Spec PyProof.Rows L2
open Vbwsae (Change)
variable {P : Program} {w : World} {K : PySem.W.Frag} {mg : Str → Option Value} {base : Heap} {Z : Cs}
def WAt (H : Hp) (a : Addr) (t : Vbwsae.T Int) : Prop := ∃ kvs, H a = some (.dK kvs) ∧ RepW kvs t
abbrev oDown (Z : Cs) (dx : Addr) (c t b : Int) (ch : Addr) : HO := .ins Z.Down dx (fDown (.int c) (.int t) (.int b) (.ref ch))
abbrev oUp (Z : Cs) (dx : Addr) (c t : Int) (ud : Addr) : HO := .ins Z.Up dx (fUp (.int c) (.int t) (.ref ud))
/-- a rising row that keeps so many -/
def keepR (most : Nat) (l : List (Int × Addr)) : List (Int × Addr) := if (most : Int) < (l.length : Int) then l.tail else l
theorem putK_encR {l : List (Int × Addr)} {t : Int} {a : Addr} (h : ∀ p ∈ l, p.1 < t) : putK (encR l) (ik t) (.ref a) = encR (l ++ [(t, a)]) := by
  rw [putK_new]
  · unfold encR; rw [List.map_append]; rfl
  · rw [valV_none, encR_keys]
    intro m
    obtain ⟨j, hj, e⟩ := List.mem_map.mp m
    obtain ⟨p, hp, ej⟩ := List.mem_map.mp hj
    have e' : j = t := Sum.inl.inj e
    have := h p hp
    omega
theorem snoc_sorted {l : List (Int × Addr)} {t : Int} {a : Addr} (hs : (l.map (·.1)).Pairwise (· < ·)) (h : ∀ p ∈ l, p.1 < t) : ((l ++ [(t, a)]).map (·.1)).Pairwise (· < ·) := by
  rw [List.map_append, List.pairwise_append]
  refine ⟨hs, by simp, fun x hx y hy => ?_⟩
  obtain ⟨p, hp, rfl⟩ := List.mem_map.mp hx
  simp at hy
  rw [hy]; exact h p hp
structure TakeNew (Z : Cs) (H : Hp) (ca wd idd dx : Addr) (n b lt im : Int) (lw li : List (Int × Addr)) (t bs : Int) (ch : Addr) (ds : List (Change Int)) (tb : Vbwsae.T Int) : Prop where
  bas : (bs = 0 ∧ tb = .none) ∨ (bs ≠ 0 ∧ ∃ wa, (bs, wa) ∈ lw ∧ WAt H wa tb)
  ltw : ∀ p ∈ lw, p.1 < t
  sw : (lw.map (·.1)).Pairwise (· < ·)
  lnw : lw.length ≤ 100
  chg : ChgsAt H ch ds
  nd : (ds.map (·.key)).Nodup
  fit : ∀ d ∈ ds, d.key < 2 ^ 40 ∧ d.old = Vbwsae.get tb d.key ∧ d.old ≠ d.new
  sz : Vbwsae.size tb + ds.length ≤ 1000
  si : (li.map (·.1)).Pairwise (· < ·)
  lni : li.length ≤ 1000
  b0 : 0 ≤ b
def spTakeDown (Z : Cs) : Sp := fun vs H Q _ => ∃ (ca dx wd idd pa dp ch : Addr) (bo : V) (n b lt im c t bs : Int), vs = [.ref ca, .ref pa] ∧ H ca = some (oClient Z dx n b lt wd im idd bo) ∧ H pa = some (oDown Z dp c t bs ch) ∧
  (t ≤ lt → Q (.bl false) H) ∧
  (lt < t → ∃ (lw li : List (Int × Addr)) (ds : List (Change Int)) (tb : Vbwsae.T Int), H wd = some (.dK (encR lw)) ∧ H idd = some (.dK (encR li)) ∧ wd ≠ idd ∧ TakeNew Z H ca wd idd dx n b lt im lw li t bs ch ds tb ∧
    ∀ H' nw kvs', (∀ a o, H a = some o → a ≠ ca → a ≠ wd → a ≠ idd → H' a = some o) → H nw = none → H' nw = some (.dK kvs') → RepW kvs' (ds.foldl (fun t c => Vbwsae.change c t) tb) → H' ca = some (oClient Z dx n b t wd im idd bo) →
      H' wd = some (.dK (encR (keepR 16 (lw ++ [(t, nw)])))) → H' idd = some (.dK (encR (li.filter fun p => decide (Vbwsah.at_ (ds.foldl (fun t c => Vbwsae.change c t) tb) (1000 + b.toNat) < p.1)))) → Q (.bl true) H')
theorem ok_Client_take_down (T : Txt K mg Z) : MethOk P w K mg base Z.Client 2 "take_down" ["self", "packet"] (spTakeDown Z) := by
  refine T.f_Client_take_down.ok sc_Client_take_down (fun vs H Q E h => ?_) (fun f cdv A outer s H vs Q E hr h => ⟨_, (pss_cons (ps_if (pt_cmpR op_le (pe_fld (pv 1) rfl) (pe_fld (pv 0) rfl) (nomark _)) (pss_one (ps_ret pe_bl)) pss_nil)
      (pss_cons (ps_set (i := 2) sc_Client_take_down.nd rfl (Or.inl rfl) (pe_def (ok_put_changes T) hr (pa_cons (pe_m (ok_Client_world_of T) T.cl_Client hr (pv 0) (pa_cons (pe_fld (pv 1) rfl) pa_nil)) (pa_cons (pe_fld (pv 1) rfl) pa_nil))))
      (pss_cons (ps_expr (pe_def (ok_keep_world T) hr (pa_cons (pe_fld (pv 0) rfl) (pa_cons (pe_fld (pv 1) rfl) (pa_cons (pv 2) (pa_cons (pe_gc T.c_MOST_WORLDS) pa_nil))))))
      (pss_cons (ps_fld (pv 0) (pe_fld (pv 1) rfl) rfl)
      (pss_cons (ps_expr (pe_m (ok_Client_forget_inputs T) T.cl_Client hr (pv 0) (pa_cons (pe_dget2 (hu_of hr) (pv 2) (pe_def (ok_followed_key T) hr (pa_cons (pe_fld (pv 0) rfl) pa_nil)) pe_int ⟨rfl, rfl, rfl, rfl⟩) pa_nil)))
      (pss_one (ps_ret pe_bl))))))), ?_⟩)
  · obtain ⟨ca, dx, wd, idd, pa, dp, ch, bo, n, b, lt, im, c, t, bs, rfl, _⟩ := h; rfl
  · obtain ⟨ca, dx, wd, idd, pa, dp, ch, bo, n, b, lt, im, c, t, bs, rfl, hc, hp, q0, q1⟩ := h
    refine ⟨_, rfl, pa, Z.Down, dp, _, _, rfl, hp, T.cl_Down, T.na_Down_tick, lk_Down_tick, _, rfl, ca, Z.Client, dx, _, _, rfl, hc, T.cl_Client, T.na_Client_last_tick, lk_Client_last_tick, _, _, rfl, rfl, _, rfl, ?_⟩
    by_cases old : t ≤ lt
    · rw [decide_eq_true old]
      exact iteT (q0 old)
    rw [decide_eq_false old]
    refine iteF ?_
    obtain ⟨lw, li, ds, tb, hw, hi, nwi, N, q⟩ := q1 (by omega)
    have neW : ca ≠ wd := ne_of hc hw (fun z => nomatch z)
    have neI : ca ≠ idd := ne_of hc hi (fun z => nomatch z)
    have ev : ∀ Q' : VK, (∀ H1 a0 kv0, Same H H1 → H1 a0 = some (.dK kv0) → RepW kv0 tb → Q' (.ref a0) H1) → tMeth Z.Client "world_of" (spWorldOf Z) [] E0 (tVar 0) (tCons (tFld K (tVar 1) "base") tNil) [some (.ref ca), some (.ref pa), none] H Q' := by
      intro Q' k
      refine ⟨_, rfl, ca, dx, _, rfl, hc, nm_Client_world_of, _, rfl, pa, Z.Down, dp, _, _, rfl, hp, T.cl_Down, T.na_Down_base, lk_Down_base, ca, dx, wd, idd, bo, n, b, lt, im, bs, encR lw, rfl, hc, hw, fun e p hp' => ?_, fun ne => ?_⟩
      · rcases N.bas with ⟨_, e2⟩ | ⟨e2, _⟩
        · rw [e2] at k
          exact k _ p [] (Same.new hp') upd_same RepW.nil
        · exact absurd e e2
      · rcases N.bas with ⟨e2, _⟩ | ⟨_, wa, hm, kv0, hwa, r0⟩
        · exact absurd e2 ne
        · exact ⟨.ref wa, encR_val (p := (bs, wa)) (lt_nodup N.sw) hm, k H wa kv0 (Same.refl H) hwa r0⟩
    refine ev _ fun H1 a0 kv0 s1 ha0 r0 => ?_
    refine ⟨_, rfl, pa, Z.Down, dp, _, _, rfl, s1 _ _ hp, T.cl_Down, T.na_Down_changes, lk_Down_changes, a0, ch, kv0, tb, ds, rfl, ha0, r0, N.chg.same s1, N.nd, N.fit, N.sz, fun H2 nw kvs' s2 hn1 hn2 r2 => ?_⟩
    have s02 : Same H H2 := s1.trans s2
    have hn0 : H nw = none := s1.free hn1
    have hc2 := s02 _ _ hc
    have hp2 := s02 _ _ hp
    have hw2 := s02 _ _ hw
    have hi2 := s02 _ _ hi
    have new : nw ≠ wd := fun z => by rw [z, hw] at hn0; cases hn0
    have nei : nw ≠ idd := fun z => by rw [z, hi] at hn0; cases hn0
    have nec : nw ≠ ca := fun z => by rw [z, hc] at hn0; cases hn0
    have nep : pa ≠ wd := ne_of hp hw (fun z => nomatch z)
    have nepc : pa ≠ ca ∨ pa = ca := by by_cases z : pa = ca; exact .inr z; exact .inl z
    refine ⟨_, rfl, ca, Z.Client, dx, _, _, rfl, hc2, T.cl_Client, T.na_Client_worlds, lk_Client_worlds, _, rfl, pa, Z.Down, dp, _, _, rfl, hp2, T.cl_Down, T.na_Down_tick, lk_Down_tick, _, rfl, wd, nw, encR lw, lw ++ [(t, nw)], t, 16, rfl, hw2, ?_, putK_encR N.ltw, by simp, snoc_sorted N.sw N.ltw, ?_⟩
    · have := N.lnw
      unfold encR; rw [List.length_map]; omega
    refine ⟨_, rfl, pa, Z.Down, dp, _, _, rfl, by rw [upd_ne nep]; exact hp2, T.cl_Down, T.na_Down_tick, lk_Down_tick, _, rfl, ca, Z.Client, dx, _, rfl, by rw [upd_ne neW]; exact hc2, T.cl_Client, T.na_Client_last_tick, (by show 7 < 1000; decide), ?_⟩
    rw [pf_Client_last_tick]
    have gv : (valV kvs' (ik (1000 + b))).getD (.int 0) = .int (Vbwsah.at_ (ds.foldl (fun t c => Vbwsae.change c t) tb) (1000 + b.toNat)) := by
      have e : 1000 + b = ((1000 + b.toNat : Nat) : Int) := by have := N.b0; omega
      rw [e, r2.get]
      unfold Vbwsah.at_
      cases Vbwsae.get (ds.foldl (fun t c => Vbwsae.change c t) tb) (1000 + b.toNat) <;> rfl
    refine ⟨_, rfl, ca, dx, _, rfl, upd_same, nm_Client_forget_inputs, ?_⟩
    refine ⟨_, rfl, nw, rfl, .inl ⟨kvs', .inl (by rw [upd_ne nec, upd_ne new]; exact hn2)⟩, _, rfl, ca, Z.Client, dx, _, _, rfl, upd_same, T.cl_Client, T.na_Client_body, lk_Client_body, b, rfl, _, DGet.k (k := ik (1000 + b)) (kvs := kvs') (by rw [upd_ne nec, upd_ne new]; exact hn2), ?_⟩
    rw [gv]
    refine ⟨ca, dx, wd, idd, bo, n, b, t, im, _, li, rfl, upd_same, by rw [upd_ne (Ne.symm neI), upd_ne (Ne.symm nwi)]; exact hi2, N.lni, N.si, fun H' fr hi' => ?_⟩
    refine q H' nw kvs' (fun a o e h1 h2 h3 => ?_) hn0 ?_ r2 ?_ ?_ hi'
    · refine fr a o ?_ h3
      rw [upd_ne h1, upd_ne h2]; exact s02 a o e
    · refine fr nw _ ?_ nei
      rw [upd_ne nec, upd_ne new]; exact hn2
    · exact fr ca _ upd_same neI
    · refine fr wd _ ?_ nwi
      rw [upd_ne (Ne.symm neW), upd_same]
      rfl
end MN
set_option Elab.async false
set_option maxRecDepth 100000
set_option maxHeartbeats 2000000
set_option linter.unusedVariables false
namespace MN
open PySem PySem.Spec PyProof.Rows L2
open Vbwsae (Change)
variable {P : Program} {w : World} {K : PySem.W.Frag} {mg : Str → Option Value} {base : Heap} {Z : Cs}
abbrev oPeer (Z : Cs) (dx : Addr) (n b kt : Int) (sd wtd : Addr) : HO := .ins Z.Peer dx (fPeer (.int n) (.int b) (.int kt) (.ref sd) (.ref wtd))
def spPeerInit (Z : Cs) : Sp := fun vs H Q _ => ∃ (x dx : Addr) (n b : Int), vs = [.ref x, .int n, .int b] ∧ H x = some (.ins Z.Peer dx []) ∧
  ∀ sd wtd, H sd = none → H wtd = none → sd ≠ wtd → Q .non (upd (upd (upd H sd (.dK [])) wtd (.dK [])) x (oPeer Z dx n b 0 sd wtd))
theorem mk_Peer (T : Txt K mg Z) : MakeOk P w K mg base Z.Peer 1 "Peer" ["self", "number", "body"] (spPeerInit Z) := by
  refine T.f_Peer___init__.ok sc_Peer___init__ (fun vs H Q E h => ?_) (fun f cdv A outer s H vs Q E hr h => ⟨_, (pss_cons (ps_fld (pv 0) (pv 1) rfl)
      (pss_cons (ps_fld (pv 0) (pv 2) rfl)
      (pss_cons (ps_fld (pv 0) pe_int rfl)
      (pss_cons (ps_fld (pv 0) pe_dnewK rfl)
      (pss_one (ps_fld (pv 0) pe_dnewK rfl)))))), ?_⟩)
  · obtain ⟨x, dx, n, b, rfl, _⟩ := h; rfl
  · obtain ⟨x, dx, n, b, rfl, hx, q⟩ := h
    refine ⟨_, rfl, _, rfl, x, Z.Peer, dx, _, rfl, hx, T.cl_Peer, T.na_Peer_number, (by show 0 < 1000; decide), ?_⟩
    refine ⟨_, rfl, _, rfl, x, Z.Peer, dx, _, rfl, upd_same, T.cl_Peer, T.na_Peer_body, (by show 1 < 1000; decide), ?_⟩
    refine ⟨_, rfl, x, Z.Peer, dx, _, rfl, upd_same, T.cl_Peer, T.na_Peer_known_tick, (by show 2 < 1000; decide), ?_⟩
    rw [upd_upd, upd_upd]
    intro wd hwd
    have hwx : x ≠ wd := ne_of_none upd_same hwd
    refine ⟨_, rfl, x, Z.Peer, dx, _, rfl, by rw [upd_ne hwx]; exact upd_same, T.cl_Peer, T.na_Peer_sent, (by show 3 < 1000; decide), ?_⟩
    intro idd hid
    have hix : x ≠ idd := ne_of_none upd_same hid
    refine ⟨_, rfl, x, Z.Peer, dx, _, rfl, by rw [upd_ne hix]; exact upd_same, T.cl_Peer, T.na_Peer_waiting, (by show 4 < 1000; decide), ?_⟩
    have h1 : H wd = none := by rw [upd_ne (Ne.symm hwx)] at hwd; exact hwd
    have h3 : wd ≠ idd := by
      intro z
      rw [← z, upd_ne (Ne.symm hwx), upd_same] at hid
      cases hid
    have h2 : H idd = none := by
      rw [upd_ne (Ne.symm hix), upd_ne (Ne.symm h3), upd_ne (Ne.symm hix)] at hid
      exact hid
    have e := q wd idd h1 h2 h3
    rw [upd_comm (a := x) (b := wd) hwx, upd_upd, upd_comm (a := x) (b := idd) hix, upd_upd]
    exact e
def spChooseBase (Z : Cs) : Sp := fun vs H Q _ => ∃ (pa dx sd wtd : Addr) (n b kt : Int) (kvs : List (Key × V)), vs = [.ref pa] ∧ H pa = some (oPeer Z dx n b kt sd wtd) ∧ H sd = some (.dK kvs) ∧ Q (.int (if (valV kvs (ik kt)).isSome = true then kt else 0)) H
theorem ok_Peer_choose_base (T : Txt K mg Z) : MethOk P w K mg base Z.Peer 1 "choose_base" ["self"] (spChooseBase Z) := by
  refine T.f_Peer_choose_base.ok sc_Peer_choose_base (fun vs H Q E h => ?_) (fun f cdv A outer s H vs Q E hr h => ⟨_, (pss_cons (ps_if (pt_cmp (pc_din (hu_of hr) (pe_fld (pv 0) rfl) (pe_fld (pv 0) rfl))) (pss_one (ps_ret (pe_fld (pv 0) rfl))) pss_nil)
      (pss_one (ps_ret pe_int))), ?_⟩)
  · obtain ⟨pa, dx, sd, wtd, n, b, kt, kvs, rfl, _⟩ := h; rfl
  · obtain ⟨pa, dx, sd, wtd, n, b, kt, kvs, rfl, hp, hs, q⟩ := h
    refine ⟨_, rfl, pa, Z.Peer, dx, _, _, rfl, hp, T.cl_Peer, T.na_Peer_known_tick, lk_Peer_known_tick, _, rfl, pa, Z.Peer, dx, _, _, rfl, hp, T.cl_Peer, T.na_Peer_sent, lk_Peer_sent, sd, _, rfl, DGet.k (k := ik kt) hs, _, rfl, ?_⟩
    cases e : (valV kvs (ik kt)).isSome with
    | true =>
      rw [e, if_pos rfl] at q
      exact iteT ⟨_, rfl, pa, Z.Peer, dx, _, _, rfl, hp, T.cl_Peer, T.na_Peer_known_tick, lk_Peer_known_tick, q⟩
    | false =>
      rw [e, if_neg (by simp)] at q
      exact iteF q
/-- what is sent: the base's world, the world -/
structure MakeDown (H : Hp) (sd wa : Addr) (kt t : Int) (ls l1 : List (Int × Addr)) (bs : Int) (tb tw : Vbwsae.T Int) : Prop where
  ss : (ls.map (·.1)).Pairwise (· < ·)
  ll : ls.length ≤ 100
  bas : (bs = kt ∧ ∃ ba, (kt, ba) ∈ ls ∧ WAt H ba tb) ∨ (bs = 0 ∧ tb = .none ∧ ∀ p ∈ ls, p.1 ≠ kt)
  z0 : ∀ p ∈ ls, p.1 ≠ 0
  wat : WAt H wa tw
  zb : Vbwsae.size tb ≤ 200
  zw : Vbwsae.size tw ≤ 200
  put : putK (encR ls) (ik t) (.ref wa) = encR l1
  ne : l1 ≠ []
  s1 : (l1.map (·.1)).Pairwise (· < ·)
def spMakeDown (Z : Cs) : Sp := fun vs H Q _ => ∃ (pa dx sd wtd wa : Addr) (n b kt t bs : Int) (ls l1 : List (Int × Addr)) (tb tw : Vbwsae.T Int), vs = [.ref pa, .int t, .ref wa] ∧ H pa = some (oPeer Z dx n b kt sd wtd) ∧ H sd = some (.dK (encR ls)) ∧ wa ≠ sd ∧ MakeDown H sd wa kt t ls l1 bs tb tw ∧
  ∀ H' p dp ch (rs : List Addr), (∀ a o, H a = some o → a ≠ sd → H' a = some o) → H p = none → H ch = none → (∀ r ∈ rs, H r = none) → H' p = some (oDown Z dp n t bs ch) → H' ch = some (.lst (rs.map V.ref)) → Paired (ChgAt H') rs (Vbwsae.diff Vbwsah.same tb tw) →
    H' sd = some (.dK (encR (keepR 16 l1))) → Q (.ref p) H'
theorem encR_none {l : List (Int × Addr)} {k : Int} (h : ∀ p ∈ l, p.1 ≠ k) : valV (encR l) (ik k) = none := by
  rw [valV_none, encR_keys]
  intro m
  obtain ⟨j, hj, e⟩ := List.mem_map.mp m
  obtain ⟨p, hp, ej⟩ := List.mem_map.mp hj
  exact h p hp (ej.trans (Sum.inl.inj e))
theorem ok_Peer_make_down (T : Txt K mg Z) : MethOk P w K mg base Z.Peer 3 "make_down" ["self", "tick", "world"] (spMakeDown Z) := by
  refine T.f_Peer_make_down.ok sc_Peer_make_down (fun vs H Q E h => ?_) (fun f cdv A outer s H vs Q E hr h => ⟨_, (pss_cons (ps_set (i := 3) sc_Peer_make_down.nd rfl (Or.inl rfl) (pe_m0 (ok_Peer_choose_base T) T.cl_Peer hr (pv 0)))
      (pss_cons (ps_set (i := 4) sc_Peer_make_down.nd rfl (Or.inl rfl) (pe_def (ok_changes_between T) hr (pa_cons (pe_dget2 (hu_of hr) (pe_fld (pv 0) rfl) (pv 3) pe_dnewK ⟨rfl, rfl, rfl, rfl⟩) (pa_cons (pv 2) pa_nil))))
      (pss_cons (ps_expr (pe_def (ok_keep_world T) hr (pa_cons (pe_fld (pv 0) rfl) (pa_cons (pv 1) (pa_cons (pv 2) (pa_cons (pe_gc T.c_MOST_SENT) pa_nil))))))
      (pss_one (ps_ret (pe_new (mk_Down T) hr (pa_cons (pe_fld (pv 0) rfl) (pa_cons (pv 1) (pa_cons (pv 3) (pa_cons (pv 4) pa_nil)))))))))), ?_⟩)
  · obtain ⟨pa, dx, sd, wtd, wa, n, b, kt, t, bs, ls, l1, tb, tw, rfl, _⟩ := h; rfl
  · obtain ⟨pa, dx, sd, wtd, wa, n, b, kt, t, bs, ls, l1, tb, tw, rfl, hp, hs, nws, M, q⟩ := h
    have nd := lt_nodup M.ss
    have neS : pa ≠ sd := ne_of hp hs (fun z => nomatch z)
    have ebs : (if (valV (encR ls) (ik kt)).isSome = true then kt else 0) = bs := by
      rcases M.bas with ⟨e, ba, hm, _⟩ | ⟨e, _, hn⟩
      · rw [encR_val (p := (kt, ba)) nd hm, e]; rfl
      · rw [encR_none hn, e]; rfl
    refine ⟨_, rfl, pa, dx, _, rfl, hp, nm_Peer_choose_base, pa, dx, sd, wtd, n, b, kt, encR ls, rfl, hp, hs, ?_⟩
    rw [ebs]
    refine ⟨_, rfl, pa, Z.Peer, dx, _, _, rfl, hp, T.cl_Peer, T.na_Peer_sent, lk_Peer_sent, sd, rfl, .inl ⟨_, .inl hs⟩, _, rfl, fun p0 hp0 => ?_⟩
    have s0 : Same H (upd H p0 (.dK [])) := Same.new hp0
    refine ⟨_, DGet.k (k := ik bs) (s0 _ _ hs), _, rfl, ?_⟩
    have hbase : ∃ (a0 : Addr) (kv0 : List (Key × V)), (valV (encR ls) (ik bs)).getD (.ref p0) = .ref a0 ∧ (upd H p0 (.dK [])) a0 = some (.dK kv0) ∧ RepW kv0 tb := by
      rcases M.bas with ⟨e, ba, hm, kv0, hb, r0⟩ | ⟨e, et, hn⟩
      · refine ⟨ba, kv0, ?_, s0 _ _ hb, r0⟩
        rw [e, encR_val (p := (kt, ba)) nd hm]; rfl
      · refine ⟨p0, [], ?_, upd_same, ?_⟩
        · rw [e, encR_none M.z0]; rfl
        · rw [et]; exact RepW.nil
    obtain ⟨a0, kv0, e0, h0, r0⟩ := hbase
    rw [e0]
    obtain ⟨kw, hw, rw1⟩ := M.wat
    refine ⟨a0, wa, kv0, kw, tb, tw, rfl, h0, s0 _ _ hw, r0, rw1, M.zb, M.zw, fun H2 ch rs s2 hch hrs hch2 pr => ?_⟩
    have s02 : Same H H2 := s0.trans s2
    have hch0 : H ch = none := s0.free hch
    have hrs0 : ∀ r ∈ rs, H r = none := fun r hr => s0.free (hrs r hr)
    have ncs : ch ≠ sd := fun z => by rw [z, hs] at hch0; cases hch0
    refine ⟨_, rfl, pa, Z.Peer, dx, _, _, rfl, s02 _ _ hp, T.cl_Peer, T.na_Peer_sent, lk_Peer_sent, _, rfl, _, rfl, sd, wa, encR ls, l1, t, 16, rfl, s02 _ _ hs, ?_, M.put, M.ne, M.s1, ?_⟩
    · have := M.ll
      unfold encR; rw [List.length_map]; omega
    refine ⟨_, rfl, pa, Z.Peer, dx, _, _, rfl, by rw [upd_ne neS]; exact s02 _ _ hp, T.cl_Peer, T.na_Peer_number, lk_Peer_number, _, rfl, _, rfl, _, rfl, ?_⟩
    intro p dp hpn hdn ne
    have sD : sd ≠ p := ne_of_none upd_same hpn
    have sDd : sd ≠ dp := ne_of_none upd_same hdn
    have hp0' : H2 p = none := by rw [upd_ne (Ne.symm sD)] at hpn; exact hpn
    have hd0' : H2 dp = none := by rw [upd_ne (Ne.symm sDd)] at hdn; exact hdn
    have nch : ch ≠ p := ne_of_none hch2 hp0'
    have nchd : ch ≠ dp := ne_of_none hch2 hd0'
    have keep : ∀ a o, H2 a = some o → a ≠ sd → upd (upd (upd (upd H2 sd (.dK (encR (keepR 16 l1)))) dp (.own p)) p (.ins Z.Down dp [])) p (oDown Z dp n t bs ch) a = some o := fun a o e h1 => by
      rw [upd_ne (ne_of_none e hp0'), upd_ne (ne_of_none e hp0'), upd_ne (ne_of_none e hd0'), upd_ne h1]
      exact e
    refine ⟨p, dp, _, _, _, _, rfl, upd_same, ⟨rfl, q _ p dp ch rs (fun a o e h1 => keep a o (s02 a o e) h1) (s02.free hp0') hch0 hrs0 upd_same (keep ch _ hch2 ncs) (Paired.mapP pr fun r d z => ?_) ?_⟩⟩
    · have hrs2 : r ≠ sd := fun y => by
        have z' : H2 r = some (.tup _) := z
        rw [y, s02 _ _ hs] at z'
        cases z'
      exact keep r _ z hrs2
    · show upd (upd (upd (upd H2 sd (.dK (encR (keepR 16 l1)))) dp (.own p)) p (.ins Z.Down dp [])) p (oDown Z dp n t bs ch) sd = _
      rw [upd_ne sD, upd_ne sD, upd_ne sDd, upd_same]
end MN
set_option Elab.async false
set_option maxRecDepth 100000
set_option maxHeartbeats 2000000
set_option linter.unusedVariables false
namespace MN
open PySem PySem.Spec PyProof.Rows L2
open Vbwsah (Input Numbered)
variable {P : Program} {w : World} {K : PySem.W.Frag} {mg : Str → Option Value} {base : Heap} {Z : Cs}
/-- one input more, if it is new -/
def addW (fo : Int) (l : List (Int × Addr)) (p : Int × Addr) : List (Int × Addr) := if fo < p.1 ∧ p.1 ∉ l.map (·.1) then l ++ [p] else l
theorem addW_len (fo : Int) (l : List (Int × Addr)) (p : Int × Addr) : (addW fo l p).length ≤ l.length + 1 := by
  unfold addW
  split
  · rw [List.length_append]; simp
  · omega
theorem addWs_len (fo : Int) : ∀ (ps l : List (Int × Addr)), (ps.foldl (addW fo) l).length ≤ l.length + ps.length
  | [], l => Nat.le_refl _
  | p :: ps, l => by
    rw [List.foldl_cons, List.length_cons]
    have h1 := addWs_len fo ps (addW fo l p)
    have h2 := addW_len fo l p
    omega
theorem encR_some {l : List (Int × Addr)} {k : Int} : (valV (encR l) (ik k)).isSome = decide (k ∈ l.map (·.1)) := by
  by_cases h : k ∈ l.map (·.1)
  · rw [decide_eq_true h]
    cases e : valV (encR l) (ik k) with
    | some v => rfl
    | none =>
      rw [valV_none, encR_keys] at e
      exact absurd (List.mem_map.mpr ⟨k, h, rfl⟩) e
  · rw [decide_eq_false h, encR_none]
    · rfl
    · intro p hp z
      exact h (List.mem_map.mpr ⟨p, hp, z⟩)
def spTakeUp (Z : Cs) : Sp := fun vs H Q _ => ∃ (pa dx sd wtd ua du ud : Addr) (n b kt c t fo : Int) (ks : List (Key × V)) (lu lw : List (Int × Addr)), vs = [.ref pa, .ref ua, .int fo] ∧ H pa = some (oPeer Z dx n b kt sd wtd) ∧ H ua = some (oUp Z du c t ud) ∧ H sd = some (.dK ks) ∧
  H ud = some (.dK (encR lu)) ∧ H wtd = some (.dK (encR lw)) ∧ ud ≠ wtd ∧ lu.length ≤ 1000 ∧ lw.length ≤ 1000 ∧
  ∀ H', (∀ a o, H a = some o → a ≠ pa → a ≠ wtd → H' a = some o) → H' pa = some (oPeer Z dx n b (if kt < t ∧ (valV ks (ik t)).isSome = true then t else kt) sd wtd) → H' wtd = some (.dK (encR (lu.foldl (addW fo) lw))) → Q .non H'
theorem ok_Peer_take_up (T : Txt K mg Z) : MethOk P w K mg base Z.Peer 1 "take_up" ["self", "packet", "followed"] (spTakeUp Z) := by
  refine T.f_Peer_take_up.ok sc_Peer_take_up (fun vs H Q E h => ?_) (fun f cdv A outer s H vs Q E hr h => ⟨_, (pss_cons (ps_if (PW.pt (pw_and (pt_cmpR op_gt (pe_fld (pv 1) rfl) (pe_fld (pv 0) rfl) (nomark _)) (pw_and1 (pt_cmp (pc_din (hu_of hr) (pe_fld (pv 1) rfl) (pe_fld (pv 0) rfl)))))) (pss_one (ps_fld (pv 0) (pe_fld (pv 1) rfl) rfl)) pss_nil)
      (pss_one (ps_lock (ps_for PassesOwn.never rfl (pi_items (pe_fld (pv 1) rfl)) (pg_tup rfl (pgs_cons (pg_name (i := 3) sc_Peer_take_up.nd rfl (Or.inl rfl)) (pgs_cons (pg_name (i := 4) sc_Peer_take_up.nd rfl (Or.inl rfl)) pgs_nil))) (pss_one (ps_if (PW.pt (pw_and (pt_cmpR op_gt (pv 3) (pv 2) (nomark _)) (pw_and1 (pt_cmp (pc_dnotin (hu_of hr) (pv 3) (pe_fld (pv 0) rfl)))))) (pss_one (ps_dput (hu_of hr) (pe_fld (pv 0) rfl) (pv 3) (pv 4) rfl)) pss_nil)))))), ?_⟩)
  · obtain ⟨pa, dx, sd, wtd, ua, du, ud, n, b, kt, c, t, fo, ks, lu, lw, rfl, _⟩ := h; rfl
  · obtain ⟨pa, dx, sd, wtd, ua, du, ud, n, b, kt, c, t, fo, ks, lu, lw, rfl, hp, hu, hs, hud, hwt, nuw, zu, zw, q⟩ := h
    have npu : pa ≠ ud := ne_of hp hud (fun z => nomatch z)
    have npw : pa ≠ wtd := ne_of hp hwt (fun z => nomatch z)
    have nuu : ua ≠ ud := ne_of hu hud (fun z => nomatch z)
    have nuw2 : ua ≠ wtd := ne_of hu hwt (fun z => nomatch z)
    -- what is done behind the test
    generalize ekt : (if kt < t ∧ (valV ks (ik t)).isSome = true then t else kt) = kt' at q
    have rest : ∀ H1, (∀ a o, H a = some o → a ≠ pa → H1 a = some o) → H1 pa = some (oPeer Z dx n b kt' sd wtd) → tLock (tFor (iItems (tFld K (tVar 1) "inputs")) (gTup K 2 (gCons (gName 3) (gCons (gName 4) gNil)))
        (tIfS (tAnd (tTest (tOp (rI0 fun i j => .bl (decide (j < i))) (tVar 3) (tVar 2))) (tB (tDNotIn (tVar 3) (tFld K (tVar 0) "waiting")))) (sDPut (tFld K (tVar 0) "waiting") (tVar 3) (tVar 4)) tNext)) { nx := fun _ H' => Q .non H', rt := Q } [some (.ref pa), some (.ref ua), some (.int fo), none, none] H1 := by
      intro H1 f1 hp1
      have nua : ∀ (z : ua = pa), False := fun z => by
        rw [z, hp] at hu
        have := Option.some.inj hu
        have e2 : fPeer (.int n) (.int b) (.int kt) (.ref sd) (.ref wtd) = fUp (.int c) (.int t) (.ref ud) := by injection this
        have e3 := congrArg List.length e2
        exact absurd e3 (by show ¬ 5 = 3; decide)
      have hu1 := f1 _ _ hu (fun z => nua z)
      have hud1 := f1 _ _ hud (Ne.symm npu)
      have hwt1 := f1 _ _ hwt (Ne.symm npw)
      refine ⟨ud, .dK (encR lu), hud1, trivial, fun od => ?_⟩
      have hx : upd H1 ud (.frz od (.dK (encR lu))) ua = some (oUp Z du c t ud) := by rw [upd_ne nuu]; exact hu1
      refine ⟨_, rfl, ua, Z.Up, du, _, _, rfl, hx, T.cl_Up, T.na_Up_inputs, lk_Up_inputs, ud, od, encR lu, rfl, upd_same, ?_⟩
      refine for_it walk_items (fun i σ H' => ∃ v3 v4 : Option V, σ = [some (.ref pa), some (.ref ua), some (.int fo), v3, v4] ∧ (∀ a o, upd H1 ud (.frz od (.dK (encR lu))) a = some o → a ≠ wtd → H' a = some o) ∧ H' wtd = some (.dK (encR ((lu.take i).foldl (addW fo) lw)))) ⟨none, none, rfl, fun a o e _ => e, ?_⟩ (fun i σ H' _ ⟨_, _, _, fr, _⟩ => fr ud _ upd_same nuw) ?_ ?_
      · rw [upd_ne (Ne.symm nuw)]; exact hwt1
      · rintro i x σ H' H2 hi ⟨v3, v4, rfl, fr, hw'⟩ ⟨Tt, kx, vx, rfl, hT, rfl, ek, ev⟩
        have hlen : i < lu.length := by
          have : (encR lu).length = lu.length := by unfold encR; rw [List.length_map]
          omega
        have hge : (encR lu)[i]? = some (ik lu[i].1, .ref lu[i].2) := by
          unfold encR
          rw [List.getElem?_map, List.getElem?_eq_getElem hlen]; rfl
        dsimp only at ek ev
        rw [hge] at ek ev
        have ek' : V.int lu[i].1 = kx := Option.some.inj ek
        have ev' : V.ref lu[i].2 = vx := Option.some.inj ev
        subst ek' ev'
        have hTw : wtd ≠ Tt := ne_of_none hw' hT
        have hw2 : upd H' Tt (.tup [.int lu[i].1, .ref lu[i].2]) wtd = some (.dK (encR ((lu.take i).foldl (addW fo) lw))) := by rw [upd_ne hTw]; exact hw'
        have hp0 : upd H1 ud (.frz od (.dK (encR lu))) pa = some (oPeer Z dx n b kt' sd wtd) := by rw [upd_ne npu]; exact hp1
        have hp' := fr pa _ hp0 npw
        have hp2 : upd H' Tt (.tup [.int lu[i].1, .ref lu[i].2]) pa = some (oPeer Z dx n b kt' sd wtd) := by rw [upd_ne (ne_of_none hp' hT)]; exact hp'
        have frT : ∀ a o, upd H1 ud (.frz od (.dK (encR lu))) a = some o → a ≠ wtd → upd H' Tt (.tup [.int lu[i].1, .ref lu[i].2]) a = some o := fun a o e h1 => by
          have := fr a o e h1
          rw [upd_ne (ne_of_none this hT)]; exact this
        have ht := take_snoc (List.getElem?_eq_getElem hlen)
        have ef : (lu.take (i + 1)).foldl (addW fo) lw = addW fo ((lu.take i).foldl (addW fo) lw) lu[i] := by rw [ht, List.foldl_append]; rfl
        generalize hlw : (lu.take i).foldl (addW fo) lw = lw' at *
        have hzl : lw'.length ≤ 2000 := by
          rw [← hlw]
          have := addWs_len fo (lu.take i) lw
          rw [List.length_take] at this
          omega
        refine ⟨Tt, _, rfl, SqT.of upd_same, rfl, _, _, rfl, _, _, rfl, rfl, ?_⟩
        refine ⟨_, rfl, _, rfl, _, _, rfl, rfl, _, rfl, ?_⟩
        by_cases c1 : fo < lu[i].1
        · rw [decide_eq_true c1]
          refine iteT ⟨_, rfl, _, rfl, pa, Z.Peer, dx, _, _, rfl, hp2, T.cl_Peer, T.na_Peer_waiting, lk_Peer_waiting, wtd, _, rfl, DGet.k (k := ik lu[i].1) hw2, _, rfl, ?_⟩
          rw [encR_some]
          by_cases c2 : lu[i].1 ∈ lw'.map (·.1)
          · rw [decide_eq_true c2]
            refine iteF ⟨_, _, rfl, frT, ?_⟩
            rw [ef, hw2]
            unfold addW
            rw [if_neg (fun z => z.2 c2)]
          · rw [decide_eq_false c2]
            refine iteT ⟨_, rfl, _, rfl, pa, Z.Peer, dx, _, _, rfl, hp2, T.cl_Peer, T.na_Peer_waiting, lk_Peer_waiting, _, rfl, wtd, _, rfl, DPut.k (k := ik lu[i].1) hw2 (sizeL (by unfold encR; rw [List.length_map]; omega)), ?_⟩
            refine ⟨_, _, rfl, fun a o e h1 => by rw [upd_ne h1]; exact frT a o e h1, ?_⟩
            rw [upd_same, ef]
            unfold addW
            rw [if_pos ⟨c1, c2⟩, putK_new]
            · unfold encR; rw [List.map_append]; rfl
            · refine encR_none fun p hp z => c2 (List.mem_map.mpr ⟨p, hp, z⟩)
        · rw [decide_eq_false c1]
          refine iteF (iteF ⟨_, _, rfl, frT, ?_⟩)
          rw [ef, hw2]
          unfold addW
          rw [if_neg (fun z => c1 z.1)]
      · rintro σ H' ⟨v3, v4, rfl, fr, hw'⟩
        have hl : (encR lu).length = lu.length := by unfold encR; rw [List.length_map]
        rw [hl, List.take_length] at hw'
        refine ⟨fr ud _ upd_same nuw, q _ (fun a o e h1 h2 => ?_) ?_ ?_⟩
        · by_cases z : a = ud
          · subst z
            rw [upd_same]
            rw [hud] at e; exact e
          · rw [upd_ne z]
            refine fr a o ?_ h2
            rw [upd_ne z]; exact f1 a o e h1
        · rw [upd_ne npu]
          refine fr pa _ ?_ npw
          rw [upd_ne npu]; exact hp1
        · rw [upd_ne (Ne.symm nuw)]; exact hw'
    refine ⟨_, rfl, ua, Z.Up, du, _, _, rfl, hu, T.cl_Up, T.na_Up_tick, lk_Up_tick, _, rfl, pa, Z.Peer, dx, _, _, rfl, hp, T.cl_Peer, T.na_Peer_known_tick, lk_Peer_known_tick, _, _, rfl, rfl, _, rfl, ?_⟩
    by_cases c1 : kt < t
    · rw [decide_eq_true c1]
      refine iteT ⟨_, rfl, ua, Z.Up, du, _, _, rfl, hu, T.cl_Up, T.na_Up_tick, lk_Up_tick, _, rfl, pa, Z.Peer, dx, _, _, rfl, hp, T.cl_Peer, T.na_Peer_sent, lk_Peer_sent, sd, _, rfl, DGet.k (k := ik t) hs, _, rfl, ?_⟩
      cases c2 : (valV ks (ik t)).isSome with
      | true =>
        refine iteT ⟨_, rfl, ua, Z.Up, du, _, _, rfl, hu, T.cl_Up, T.na_Up_tick, lk_Up_tick, _, rfl, pa, Z.Peer, dx, _, rfl, hp, T.cl_Peer, T.na_Peer_known_tick, (by show 5 < 1000; decide), ?_⟩
        rw [pf_Peer_known_tick]
        rw [if_pos ⟨c1, c2⟩] at ekt
        subst ekt
        exact rest _ (fun a o e h1 => by rw [upd_ne h1]; exact e) upd_same
      | false =>
        rw [if_neg (fun z => by rw [c2] at z; exact absurd z.2 (by simp))] at ekt
        subst ekt
        exact iteF (rest H (fun a o e _ => e) hp)
    · rw [decide_eq_false c1]
      rw [if_neg (fun z => c1 z.1)] at ekt
      subst ekt
      exact iteF (iteF (rest H (fun a o e _ => e) hp))
/-! ### inputs that wait are followed -/
def tupI (i : Input) : HO := .tup [.int i.ax, .int i.ay]
/-- rows of inputs by their numbers -/
def InRel (H : Hp) (l : List (Int × Addr)) (m : List Numbered) : Prop := Paired (fun p q => p.1 = (q.1 : Int) ∧ H p.2 = some (tupI q.2)) l m
theorem Paired.memL {α β : Type} {F : α → β → Prop} : ∀ {l : List α} {m : List β} {x : α}, Paired F l m → x ∈ l → ∃ y, y ∈ m ∧ F x y
  | _, _, _, .nil, h => by cases h
  | _, _, x, .cons r t, h => by
    rcases List.mem_cons.mp h with e | e
    · subst e; exact ⟨_, List.mem_cons_self, r⟩
    · obtain ⟨y, hy, q⟩ := Paired.memL t e
      exact ⟨y, List.mem_cons_of_mem _ hy, q⟩
theorem Paired.memR {α β : Type} {F : α → β → Prop} : ∀ {l : List α} {m : List β} {y : β}, Paired F l m → y ∈ m → ∃ x, x ∈ l ∧ F x y
  | _, _, _, .nil, h => by cases h
  | _, _, y, .cons r t, h => by
    rcases List.mem_cons.mp h with e | e
    · subst e; exact ⟨_, List.mem_cons_self, r⟩
    · obtain ⟨x, hx, q⟩ := Paired.memR t e
      exact ⟨x, List.mem_cons_of_mem _ hx, q⟩
theorem InRel.nums {H : Hp} {l : List (Int × Addr)} {m : List Numbered} (h : InRel H l m) : l.map (·.1) = m.map fun q => (q.1 : Int) := by
  induction h with
  | nil => rfl
  | cons r t ih => rw [List.map_cons, List.map_cons, ih, r.1]
theorem nums_nodup {m : List Numbered} (h : (m.map (·.1)).Nodup) : (m.map fun q => (q.1 : Int)).Nodup := by
  have e : (m.map fun q => (q.1 : Int)) = (m.map (·.1)).map fun (n : Nat) => (n : Int) := by rw [List.map_map]; rfl
  rw [e]
  exact List.Pairwise.map _ (fun a b h => by omega) h
theorem inputAt_iff {m : List Numbered} (h : (m.map (·.1)).Nodup) {k : Nat} {i : Input} : Vbwsah.inputAt m k = some i ↔ (k, i) ∈ m := ⟨fun q => find_mem q, fun q => mem_find h q⟩
/-- what the next one is, and what is left -/
theorem follow_more {m : List Numbered} {k c : Nat} {i : Input} (h : Vbwsah.inputAt m (c + 1) = some i) : Vbwsah.following m (k + 1) c = i :: Vbwsah.following m k (c + 1) := by
  rw [Vbwsah.following, h]
theorem follow_end {m : List Numbered} {k c : Nat} (h : Vbwsah.inputAt m (c + 1) = none) : Vbwsah.following m k c = [] := by
  cases k with
  | zero => rfl
  | succ k => rw [Vbwsah.following, h]
def spFollowWaiting (Z : Cs) : Sp := fun vs H Q _ => ∃ (pa dx sd wtd wa : Addr) (n kt : Int) (b cc : Nat) (kvs : List (Key × V)) (t : Vbwsae.T Int) (l : List (Int × Addr)) (m : List Numbered), vs = [.ref pa, .ref wa] ∧ H pa = some (oPeer Z dx n (b : Int) kt sd wtd) ∧ H wtd = some (.dK (encR l)) ∧
  H wa = some (.dK kvs) ∧ wa ≠ wtd ∧ RepW kvs t ∧ GoodW cc t ∧ b < 8 ∧ Vbwsah.isBody t b = true ∧ (m.map (·.1)).Nodup ∧ (∀ q ∈ m, Vbwsah.countOf t b < q.1) ∧ InRel H l m ∧
  ∀ H' kvs', (∀ a o, H a = some o → a ≠ wa → a ≠ wtd → H' a = some o) → H' wa = some (.dK kvs') → RepW kvs' (Vbwsah.followed t b (Vbwsah.following m 4 (Vbwsah.countOf t b))) →
    H' wtd = some (.dK (encR (l.filter fun p => decide ((Vbwsah.countOf (Vbwsah.followed t b (Vbwsah.following m 4 (Vbwsah.countOf t b))) b : Int) < p.1)))) → Q .non H'
theorem size_good {c : Nat} {t : Vbwsae.T Int} (g : GoodW c t) : Vbwsae.size t ≤ 2064 := by
  rw [size_pairs]
  have h1 : (Vbwsae.pairs t).length = (keys t).length := by unfold keys; rw [List.length_map]
  rw [h1]
  have h2 : (keys t).length ≤ (List.range 2064).length := nodup_len (List.Pairwise.imp (fun {x y} (h : x < y) => by omega) (keys_sorted g.wf)) fun x hx => by
    obtain ⟨v, ev⟩ := Option.isSome_iff_exists.mp ((mem_keys g.wf).mp hx)
    exact List.mem_range.mpr (okKey_lt (g.key x v ev))
  rw [List.length_range] at h2
  exact h2
theorem ok_Peer_follow_waiting (T : Txt K mg Z) : MethOk P w K mg base Z.Peer 3 "follow_waiting" ["self", "world"] (spFollowWaiting Z) := by
  refine T.f_Peer_follow_waiting.ok sc_Peer_follow_waiting (fun vs H Q E h => ?_) (fun f cdv A outer s H vs Q E hr h => ⟨_, (pss_one (ps_for PassesOwn.never rfl (pi_range1 rfl T.n_range (pa_cons (pe_gc T.c_MOST_FOLLOWED_A_TICK) pa_nil)) (pg_name (i := 2) sc_Peer_follow_waiting.nd rfl (Or.inl rfl)) (pss_cons (ps_set (i := 3) sc_Peer_follow_waiting.nd rfl (Or.inl rfl) (pe_dpop2 (pe_fld (pv 0) rfl) (pe_op op_add (pe_dget (hu_of hr) (pv 1) (pe_def (ok_followed_key T) hr (pa_cons (pe_fld (pv 0) rfl) pa_nil)) (fun _ _ => rfl)) pe_int) pe_non ⟨rfl, rfl, rfl, rfl⟩))
      (pss_cons (ps_if (pt_cmpR op_isN (pv 3) pe_non (nomark _)) (pss_one ps_retN) pss_nil)
      (pss_one (ps_expr (pe_def (ok_follow T) hr (pa_cons (pv 1) (pa_cons (pe_fld (pv 0) rfl) (pa_cons (pe_ix ix_tup (pv 3) pe_int (fun _ _ => rfl)) (pa_cons (pe_ix ix_tup (pv 3) pe_int (fun _ _ => rfl)) pa_nil))))))))))), ?_⟩)
  · obtain ⟨pa, dx, sd, wtd, wa, n, kt, b, cc, kvs, t, l, m, rfl, _⟩ := h; rfl
  · obtain ⟨pa, dx, sd, wtd, wa, n, kt, b, cc, kvs, t, l, m, rfl, hp, hwt, hwa, nww, r0, g0, hb8, hib, nd, hgt, ir, q⟩ := h
    have npw : pa ≠ wa := ne_of hp hwa (fun z => nomatch z)
    have npt : pa ≠ wtd := ne_of hp hwt (fun z => nomatch z)
    generalize hcnt : Vbwsah.countOf t b = cnt at *
    have hf0 : l.filter (fun p => decide (((cnt + 0 : Nat) : Int) < p.1)) = l := by
      rw [List.filter_eq_self]
      intro p hp
      obtain ⟨y, hy, e, _⟩ := Paired.memL ir hp
      have := hgt y hy
      simp; omega
    have ndl : (l.map (·.1)).Nodup := by rw [ir.nums]; exact nums_nodup nd
    -- the end
    have fin : ∀ (j : Nat) (is : List Input) (H' : Hp) (kvs' : List (Key × V)), (∀ a o, H a = some o → a ≠ wa → a ≠ wtd → H' a = some o) → H' wa = some (.dK kvs') → is.length = j → Vbwsah.following m 4 cnt = is → RepW kvs' (Vbwsah.followed t b is) → Vbwsah.countOf (Vbwsah.followed t b is) b = cnt + j →
        H' wtd = some (.dK (encR (l.filter fun p => decide (((cnt + j : Nat) : Int) < p.1)))) → Q .non H' := by
      intro j is H' kvs' fr hw' _ ef r' ec hwt'
      refine q H' kvs' fr hw' (by rw [ef]; exact r') ?_
      rw [ef, ec]; exact hwt'
    refine ⟨4, rfl, by decide, by decide, for_range (lo := 0) (n := 4) (fun j σ H' => ∃ (v2 v3 : Option V) (kvs' : List (Key × V)) (is : List Input), σ = [some (.ref pa), some (.ref wa), v2, v3] ∧ (∀ a o, H a = some o → a ≠ wa → a ≠ wtd → H' a = some o) ∧ H' wa = some (.dK kvs') ∧ is.length = j ∧
      Vbwsah.following m 4 cnt = is ++ Vbwsah.following m (4 - j) (cnt + j) ∧ RepW kvs' (Vbwsah.followed t b is) ∧ H' wtd = some (.dK (encR (l.filter fun p => decide (((cnt + j : Nat) : Int) < p.1))))) ⟨none, none, kvs, [], rfl, fun a o e _ _ => e, hwa, rfl, rfl, r0, by rw [hf0]; exact hwt⟩ ?_ ?_⟩
    · rintro j σ H' hj ⟨v2, v3, kvs', is, rfl, fr, hw', il, ef, r', hwt'⟩
      have hat := countOf_at g0 hb8 hib
      obtain ⟨gj, bj, cj⟩ := followed_good is g0 hb8 hib (d := cc + 1) (by omega) (by
        obtain ⟨x, y, u, v, nn, ex, ey, eu, ev, en, hx, hy, hu, hv, hn'⟩ := g0.has hb8 hib
        have : Vbwsah.at_ t (1000 + b) = nn := by unfold Vbwsah.at_; rw [en]; rfl
        rw [this, il]; omega)
      have ibj : Vbwsah.isBody (Vbwsah.followed t b is) b = true := (bj b hb8).trans hib
      have ecj : Vbwsah.countOf (Vbwsah.followed t b is) b = cnt + j := by
        have := cj b hb8
        rw [if_pos rfl, hcnt, il] at this
        exact this
      obtain ⟨x, y, u, v, nn, ex, ey, eu, ev, en, hx, hy, hu, hv, hn'⟩ := gj.has hb8 ibj
      have enn : nn = ((cnt + j : Nat) : Int) := by
        have h1 := countOf_at gj hb8 ibj
        rw [ecj] at h1
        rw [h1]; unfold Vbwsah.at_; rw [en]; rfl
      have hp' := fr pa _ hp npw npt
      have ekey : (1000 + (b : Int)) = ((1000 + b : Nat) : Int) := by omega
      have hval : valV kvs' (ik (1000 + (b : Int))) = some (.int nn) := by rw [ekey, r'.get, en]; rfl
      -- world[followed_key(self.body)] + 1
      refine ⟨_, rfl, pa, Z.Peer, dx, _, _, rfl, hp', T.cl_Peer, T.na_Peer_waiting, lk_Peer_waiting, wtd, rfl, .inl ⟨_, .inl hwt'⟩, _, rfl, _, rfl, pa, Z.Peer, dx, _, _, rfl, hp', T.cl_Peer, T.na_Peer_body, lk_Peer_body, (b : Int), rfl, wa, .int nn, rfl, ?_, _, _, rfl, rfl, _, ik (nn + 1), hwt', rfl, fun vx hvx => ?_, fun hno => ?_⟩
      · rw [← hval]; exact DGet.k (k := ik (1000 + (b : Int))) hw'
      · -- there is such an input
        have hmv := valV_mem hvx
        obtain ⟨p, hpm, ep⟩ := List.mem_map.mp hmv
        have ep1 : p.1 = nn + 1 := Sum.inl.inj (congrArg Prod.fst ep)
        have ep2 : V.ref p.2 = vx := congrArg Prod.snd ep
        subst ep2
        have hpl : p ∈ l := (List.mem_filter.mp hpm).1
        obtain ⟨⟨k, i⟩, hki, e1, ht⟩ := Paired.memL ir hpl
        have ek : k = cnt + j + 1 := by
          have e1' : p.1 = (k : Int) := e1
          omega
        have hin : Vbwsah.inputAt m (cnt + j + 1) = some i := (inputAt_iff nd).mpr (by rw [← ek]; exact hki)
        have ht0 : H p.2 = some (tupI i) := ht
        have ht' : H' p.2 = some (tupI i) := fr _ _ ht0 (ne_of ht0 hwa (fun z => nomatch z)) (ne_of ht0 hwt (fun z => nomatch z))
        have n1 : wa ≠ wtd := nww
        have hw2 : upd H' wtd (.dK (dropK (encR (l.filter fun p => decide (((cnt + j : Nat) : Int) < p.1))) (ik (nn + 1)))) wa = some (.dK kvs') := by rw [upd_ne n1]; exact hw'
        have ht2 : upd H' wtd (.dK (dropK (encR (l.filter fun p => decide (((cnt + j : Nat) : Int) < p.1))) (ik (nn + 1)))) p.2 = some (tupI i) := by rw [upd_ne (ne_of ht' hwt' (fun z => nomatch z))]; exact ht'
        have hp2 : upd H' wtd (.dK (dropK (encR (l.filter fun p => decide (((cnt + j : Nat) : Int) < p.1))) (ik (nn + 1)))) pa = some (oPeer Z dx n (b : Int) kt sd wtd) := by rw [upd_ne npt]; exact hp'
        refine ⟨_, rfl, rfl, _, rfl, ?_⟩
        have ed : decide (V.ref p.2 = V.non) = false := decide_eq_false fun z => nomatch z
        rw [ed]
        refine iteF ?_
        refine ⟨_, rfl, _, rfl, pa, Z.Peer, dx, _, _, rfl, hp2, T.cl_Peer, T.na_Peer_body, lk_Peer_body, _, rfl, p.2, _, _, _, rfl, rfl, SqT.of ht2, atI_nat (j := 0) rfl, _, rfl, p.2, _, _, _, rfl, rfl, SqT.of ht2, atI_nat (j := 1) rfl, wa, kvs', (b : Int), i.ax, i.ay, x, y, u, v, nn, rfl, hw2, ?_, ?_, ?_, ?_, hval, by omega, ?_, ?_⟩
        · rw [show 4 * (b : Int) = ((4 * b : Nat) : Int) by omega, r'.get, ex]; rfl
        · rw [show 4 * (b : Int) + 1 = ((4 * b + 1 : Nat) : Int) by omega, r'.get, ey]; rfl
        · rw [show 4 * (b : Int) + 2 = ((4 * b + 2 : Nat) : Int) by omega, r'.get, eu]; rfl
        · rw [show 4 * (b : Int) + 3 = ((4 * b + 3 : Nat) : Int) by omega, r'.get, ev]; rfl
        · have := size_good gj
          rw [r'.len]; omega
        refine ⟨_, _, _, is ++ [i], rfl, fun a o e h1 h2 => by rw [upd_ne h1, upd_ne h2]; exact fr a o e h1 h2, upd_same, by rw [List.length_append, il]; rfl, ?_, ?_, ?_⟩
        · rw [ef, show 4 - j = (4 - (j + 1)) + 1 by omega, follow_more hin, List.append_assoc]
          rfl
        · have e : Vbwsah.followed t b (is ++ [i]) = Vbwsah.moved (Vbwsah.followed t b is) b i := by
            unfold Vbwsah.followed
            rw [List.foldl_append]; rfl
          rw [e]
          exact r'.moved hb8 ex ey eu ev en i
        · rw [upd_ne (Ne.symm n1), upd_same, encR_drop, List.filter_filter]
          congr 3
          refine List.filter_congr fun r hr => ?_
          rw [← Bool.decide_and]
          exact decide_eq_decide.mpr (by omega)
      · -- there is none: the end
        have hin : Vbwsah.inputAt m (cnt + j + 1) = none := by
          cases hq : Vbwsah.inputAt m (cnt + j + 1) with
          | none => rfl
          | some i =>
            have hmi := (inputAt_iff nd).mp hq
            obtain ⟨p, hpl, e1, _⟩ := Paired.memR ir hmi
            have e1' : p.1 = ((cnt + j + 1 : Nat) : Int) := e1
            have hpm : p ∈ l.filter fun p => decide (((cnt + j : Nat) : Int) < p.1) := List.mem_filter.mpr ⟨hpl, by simp; omega⟩
            have := encR_val (p := p) (ndl.sublist (List.filter_sublist.map _)) hpm
            rw [e1', show (((cnt + j + 1 : Nat) : Int)) = nn + 1 by omega, hno] at this
            cases this
        refine ⟨_, rfl, rfl, _, rfl, ?_⟩
        refine iteT ?_
        rw [follow_end hin, List.append_nil] at ef
        exact fin j is H' kvs' fr hw' il ef r' ecj hwt'
    · rintro σ H' ⟨v2, v3, kvs', is, rfl, fr, hw', il, ef, r', hwt'⟩
      have ef' : Vbwsah.following m 4 cnt = is := by rw [ef]; exact List.append_nil is
      obtain ⟨gj, bj, cj⟩ := followed_good is g0 hb8 hib (d := cc + 1) (by omega) (by
        obtain ⟨x, y, u, v, nn, ex, ey, eu, ev, en, hx, hy, hu, hv, hn'⟩ := g0.has hb8 hib
        have : Vbwsah.at_ t (1000 + b) = nn := by unfold Vbwsah.at_; rw [en]; rfl
        rw [this, il]; omega)
      have ecj : Vbwsah.countOf (Vbwsah.followed t b is) b = cnt + 4 := by
        have := cj b hb8
        rw [if_pos rfl, hcnt, il] at this
        exact this
      exact fin 4 is H' kvs' fr hw' il ef' r' ecj hwt'
end MN
set_option Elab.async false
set_option maxRecDepth 100000
set_option maxHeartbeats 2000000
set_option linter.unusedVariables false
namespace MN
open PySem PySem.Spec PyProof.Rows L2
variable {P : Program} {w : World} {K : PySem.W.Frag} {mg : Str → Option Value} {base : Heap} {Z : Cs}
abbrev oNet (Z : Cs) (dx wa : Addr) (t : Int) (kd cd pd pl : Addr) (dr : Int) : HO := .ins Z.Net dx (fNet (.ref wa) (.int t) (.ref kd) (.ref cd) (.ref pd) (.ref pl) (.int dr))
def spNetInit (Z : Cs) : Sp := fun vs H Q _ => ∃ (x dx : Addr), vs = [.ref x] ∧ H x = some (.ins Z.Net dx []) ∧
  ∀ H' wa kd cd pd pl, (∀ a o, H a = some o → a ≠ x → H' a = some o) → H wa = none → H kd = none → H cd = none → H pd = none → H pl = none → [wa, kd, cd, pd, pl].Nodup → H' x = some (oNet Z dx wa 0 kd cd pd pl 0) → H' wa = some (.dK []) → H' kd = some (.dK []) → H' cd = some (.dK []) → H' pd = some (.dK []) → H' pl = some (.lst []) → Q .non H'
theorem mk_Net (T : Txt K mg Z) : MakeOk P w K mg base Z.Net 1 "Net" ["self"] (spNetInit Z) := by
  refine T.f_Net___init__.ok sc_Net___init__ (fun vs H Q E h => ?_) (fun f cdv A outer s H vs Q E hr h => ⟨_, (pss_cons (ps_fld (pv 0) pe_dnewK rfl)
      (pss_cons (ps_fld (pv 0) pe_int rfl)
      (pss_cons (ps_fld (pv 0) pe_dnewK rfl)
      (pss_cons (ps_fld (pv 0) pe_dnewK rfl)
      (pss_cons (ps_fld (pv 0) pe_dnewK rfl)
      (pss_cons (ps_fld (pv 0) (pe_lst pa_nil) rfl)
      (pss_one (ps_fld (pv 0) pe_int rfl)))))))), ?_⟩)
  · obtain ⟨x, dx, rfl, _⟩ := h; rfl
  · obtain ⟨x, dx, rfl, hx, q⟩ := h
    intro wa h1
    have n1 : x ≠ wa := ne_of_none hx h1
    refine ⟨_, rfl, x, Z.Net, dx, _, rfl, by rw [upd_ne n1]; exact hx, T.cl_Net, T.na_Net_world, (by show 0 < 1000; decide), ?_⟩
    refine ⟨_, rfl, x, Z.Net, dx, _, rfl, upd_same, T.cl_Net, T.na_Net_tick, (by show 1 < 1000; decide), ?_⟩
    rw [upd_upd]
    intro kd h2
    have n2 : x ≠ kd := ne_of_none upd_same h2
    refine ⟨_, rfl, x, Z.Net, dx, _, rfl, by rw [upd_ne n2]; exact upd_same, T.cl_Net, T.na_Net_kept, (by show 2 < 1000; decide), ?_⟩
    intro cd h3
    have n3 : x ≠ cd := ne_of_none upd_same h3
    refine ⟨_, rfl, x, Z.Net, dx, _, rfl, by rw [upd_ne n3]; exact upd_same, T.cl_Net, T.na_Net_clients, (by show 3 < 1000; decide), ?_⟩
    intro pd h4
    have n4 : x ≠ pd := ne_of_none upd_same h4
    refine ⟨_, rfl, x, Z.Net, dx, _, rfl, by rw [upd_ne n4]; exact upd_same, T.cl_Net, T.na_Net_peers, (by show 4 < 1000; decide), ?_⟩
    refine ⟨by decide, fun pl h5 => ?_⟩
    have n5 : x ≠ pl := ne_of_none upd_same h5
    refine ⟨_, rfl, x, Z.Net, dx, _, rfl, by rw [upd_ne n5]; exact upd_same, T.cl_Net, T.na_Net_packets, (by show 5 < 1000; decide), ?_⟩
    refine ⟨_, rfl, x, Z.Net, dx, _, rfl, upd_same, T.cl_Net, T.na_Net_drift, (by show 6 < 1000; decide), ?_⟩
    rw [upd_upd]
    -- five new things, apart
    have k2 : kd ≠ wa := fun z => by rw [z, upd_ne (Ne.symm n1), upd_same] at h2; cases h2
    have g2 : H kd = none := by rw [upd_ne (Ne.symm n2), upd_ne k2] at h2; exact h2
    have k3a : cd ≠ kd := fun z => by rw [z, upd_ne (Ne.symm n2), upd_same] at h3; cases h3
    have k3b : cd ≠ wa := fun z => by rw [z, upd_ne (Ne.symm n1), upd_ne (Ne.symm k2), upd_ne (Ne.symm n1), upd_same] at h3; cases h3
    have g3 : H cd = none := by rw [upd_ne (Ne.symm n3), upd_ne k3a, upd_ne (Ne.symm n3), upd_ne k3b] at h3; exact h3
    have k4a : pd ≠ cd := fun z => by rw [z, upd_ne (Ne.symm n3), upd_same] at h4; cases h4
    have k4b : pd ≠ kd := fun z => by rw [z, upd_ne (Ne.symm n2), upd_ne (Ne.symm k3a), upd_ne (Ne.symm n2), upd_same] at h4; cases h4
    have k4c : pd ≠ wa := fun z => by rw [z, upd_ne (Ne.symm n1), upd_ne (Ne.symm k3b), upd_ne (Ne.symm n1), upd_ne (Ne.symm k2), upd_ne (Ne.symm n1), upd_same] at h4; cases h4
    have g4 : H pd = none := by rw [upd_ne (Ne.symm n4), upd_ne k4a, upd_ne (Ne.symm n4), upd_ne k4b, upd_ne (Ne.symm n4), upd_ne k4c] at h4; exact h4
    have k5a : pl ≠ pd := fun z => by rw [z, upd_ne (Ne.symm n4), upd_same] at h5; cases h5
    have k5b : pl ≠ cd := fun z => by rw [z, upd_ne (Ne.symm n3), upd_ne (Ne.symm k4a), upd_ne (Ne.symm n3), upd_same] at h5; cases h5
    have k5c : pl ≠ kd := fun z => by rw [z, upd_ne (Ne.symm n2), upd_ne (Ne.symm k4b), upd_ne (Ne.symm n2), upd_ne (Ne.symm k3a), upd_ne (Ne.symm n2), upd_same] at h5; cases h5
    have k5d : pl ≠ wa := fun z => by rw [z, upd_ne (Ne.symm n1), upd_ne (Ne.symm k4c), upd_ne (Ne.symm n1), upd_ne (Ne.symm k3b), upd_ne (Ne.symm n1), upd_ne (Ne.symm k2), upd_ne (Ne.symm n1), upd_same] at h5; cases h5
    have g5 : H pl = none := by rw [upd_ne (Ne.symm n5), upd_ne k5a, upd_ne (Ne.symm n5), upd_ne k5b, upd_ne (Ne.symm n5), upd_ne k5c, upd_ne (Ne.symm n5), upd_ne k5d] at h5; exact h5
    refine q _ wa kd cd pd pl (fun a o e na => ?_) h1 g2 g3 g4 g5 ?_ upd_same ?_ ?_ ?_ ?_ ?_
    · rw [upd_ne na, upd_ne (ne_of_none e g5), upd_ne na, upd_ne (ne_of_none e g4), upd_ne na, upd_ne (ne_of_none e g3), upd_ne na, upd_ne (ne_of_none e g2), upd_ne na, upd_ne (ne_of_none e h1)]
      exact e
    · simp only [List.nodup_cons, List.mem_cons, List.not_mem_nil, not_or, not_false_eq_true, or_false, List.nodup_nil, and_true]
      exact ⟨⟨Ne.symm k2, Ne.symm k3b, Ne.symm k4c, Ne.symm k5d⟩, ⟨Ne.symm k3a, Ne.symm k4b, Ne.symm k5c⟩, ⟨Ne.symm k4a, Ne.symm k5b⟩, Ne.symm k5a⟩
    · rw [upd_ne (Ne.symm n1), upd_ne (Ne.symm k5d), upd_ne (Ne.symm n1), upd_ne (Ne.symm k4c), upd_ne (Ne.symm n1), upd_ne (Ne.symm k3b), upd_ne (Ne.symm n1), upd_ne (Ne.symm k2), upd_ne (Ne.symm n1), upd_same]
    · rw [upd_ne (Ne.symm n2), upd_ne (Ne.symm k5c), upd_ne (Ne.symm n2), upd_ne (Ne.symm k4b), upd_ne (Ne.symm n2), upd_ne (Ne.symm k3a), upd_ne (Ne.symm n2), upd_same]
    · rw [upd_ne (Ne.symm n3), upd_ne (Ne.symm k5b), upd_ne (Ne.symm n3), upd_ne (Ne.symm k4a), upd_ne (Ne.symm n3), upd_same]
    · rw [upd_ne (Ne.symm n4), upd_ne (Ne.symm k5a), upd_ne (Ne.symm n4), upd_same]
    · rw [upd_ne (Ne.symm n5), upd_same]
def spClientsFull (Z : Cs) : Sp := fun vs H Q _ => ∃ (na dx wa kd cd pd pl : Addr) (t dr : Int) (kvs : List (Key × V)), vs = [.ref na] ∧ H na = some (oNet Z dx wa t kd cd pd pl dr) ∧ H cd = some (.dK kvs) ∧ Q (.bl (decide (4 ≤ kvs.length))) H
theorem ok_Net_clients_full (T : Txt K mg Z) : MethOk P w K mg base Z.Net 1 "clients_full" ["self"] (spClientsFull Z) := by
  refine T.f_Net_clients_full.ok sc_Net_clients_full (fun vs H Q E h => ?_) (fun f cdv A outer s H vs Q E hr h => ⟨_, (pss_one (ps_ret (pe_cmpR op_ge (pe_callB call_lenD (by rfl) T.n_len (by decide +kernel) (pa_cons (pe_fld (pv 0) rfl) pa_nil)) (pe_gc T.c_MOST_CLIENTS) (nomark _)))), ?_⟩)
  · obtain ⟨na, dx, wa, kd, cd, pd, pl, t, dr, kvs, rfl, _⟩ := h; rfl
  · obtain ⟨na, dx, wa, kd, cd, pd, pl, t, dr, kvs, rfl, hn, hc, q⟩ := h
    refine ⟨_, rfl, na, Z.Net, dx, _, _, rfl, hn, T.cl_Net, T.na_Net_clients, lk_Net_clients, cd, kvs, rfl, hc, _, _, rfl, rfl, ?_⟩
    have e : decide ((4 : Int) ≤ (kvs.length : Int)) = decide (4 ≤ kvs.length) := decide_eq_decide.mpr (by omega)
    show Q (.bl (decide ((4 : Int) ≤ (kvs.length : Int)))) H
    rw [e]; exact q
def spPacketsFull (Z : Cs) : Sp := fun vs H Q _ => ∃ (na dx wa kd cd pd pl : Addr) (t dr : Int) (xs : List V), vs = [.ref na] ∧ H na = some (oNet Z dx wa t kd cd pd pl dr) ∧ H pl = some (.lst xs) ∧ Q (.bl (decide (200 ≤ xs.length))) H
theorem ok_Net_packets_full (T : Txt K mg Z) : MethOk P w K mg base Z.Net 1 "packets_full" ["self"] (spPacketsFull Z) := by
  refine T.f_Net_packets_full.ok sc_Net_packets_full (fun vs H Q E h => ?_) (fun f cdv A outer s H vs Q E hr h => ⟨_, (pss_one (ps_ret (pe_cmpR op_ge (pe_callB call_len_seq (by rfl) T.n_len (by decide +kernel) (pa_cons (pe_fld (pv 0) rfl) pa_nil)) (pe_gc T.c_MOST_PACKETS) (nomark _)))), ?_⟩)
  · obtain ⟨na, dx, wa, kd, cd, pd, pl, t, dr, kvs, rfl, _⟩ := h; rfl
  · obtain ⟨na, dx, wa, kd, cd, pd, pl, t, dr, xs, rfl, hn, hc, q⟩ := h
    refine ⟨_, rfl, na, Z.Net, dx, _, _, rfl, hn, T.cl_Net, T.na_Net_packets, lk_Net_packets, pl, xs, rfl, .inl (SqL.of hc), _, _, rfl, rfl, ?_⟩
    have e : decide ((200 : Int) ≤ (xs.length : Int)) = decide (200 ≤ xs.length) := decide_eq_decide.mpr (by omega)
    show Q (.bl (decide ((200 : Int) ≤ (xs.length : Int)))) H
    rw [e]; exact q
def spAddPacket (Z : Cs) : Sp := fun vs H Q _ => ∃ (na dx wa kd cd pd pl : Addr) (t dr : Int) (xs : List V) (pk : V), vs = [.ref na, pk] ∧ H na = some (oNet Z dx wa t kd cd pd pl dr) ∧ H pl = some (.lst xs) ∧ xs.length ≤ 1000 ∧ Q (.int (xs.length : Int)) (upd H pl (.lst (xs ++ [pk])))
theorem ok_Net_add_packet (T : Txt K mg Z) : MethOk P w K mg base Z.Net 1 "add_packet" ["self", "packet"] (spAddPacket Z) := by
  refine T.f_Net_add_packet.ok sc_Net_add_packet (fun vs H Q E h => ?_) (fun f cdv A outer s H vs Q E hr h => ⟨_, (pss_cons (ps_expr (pe_bm PySem.F.plainAttrs_list PySem.F.slot_list_append PySem.F.type_list_append mt_append (pe_fld (pv 0) rfl) (pa_cons (pv 1) pa_nil)))
      (pss_one (ps_ret (pe_op op_sub (pe_callB call_len_seq (by rfl) T.n_len (by decide +kernel) (pa_cons (pe_fld (pv 0) rfl) pa_nil)) pe_int)))), ?_⟩)
  · obtain ⟨na, dx, wa, kd, cd, pd, pl, t, dr, xs, pk, rfl, _⟩ := h; rfl
  · obtain ⟨na, dx, wa, kd, cd, pd, pl, t, dr, xs, pk, rfl, hn, hc, hl, q⟩ := h
    have ne : na ≠ pl := ne_of hn hc (fun z => nomatch z)
    refine ⟨_, rfl, na, Z.Net, dx, _, _, rfl, hn, T.cl_Net, T.na_Net_packets, lk_Net_packets, .inl ⟨rfl, _, SqL.of hc⟩, _, rfl, pl, xs, _, rfl, rfl, hc, sizeL (by omega), ?_⟩
    refine ⟨_, rfl, na, Z.Net, dx, _, _, rfl, by rw [upd_ne ne]; exact hn, T.cl_Net, T.na_Net_packets, lk_Net_packets, pl, xs ++ [pk], rfl, .inl (SqL.of upd_same), _, _, rfl, rfl, ?_⟩
    have e : (((xs ++ [pk]).length : Nat) : Int) - 1 = (xs.length : Int) := by rw [List.length_append]; simp
    show Q (.int ((((xs ++ [pk]).length : Nat) : Int) - 1)) _
    rw [e]; exact q
/-- a body's number among the clients -/
def spBodyTaken (Z : Cs) : Sp := fun vs H Q _ => ∃ (na dx wa kd cd pd pl : Addr) (t dr b : Int) (lc : List (Int × Addr)) (bs : List Int), vs = [.ref na, .int b] ∧ H na = some (oNet Z dx wa t kd cd pd pl dr) ∧ H cd = some (.dK (encR lc)) ∧ lc.length ≤ 1000 ∧
  Paired (fun p y => ∃ dc n lt wd im idd bo, H p.2 = some (oClient Z dc n y lt wd im idd bo)) lc bs ∧ ∀ H', Same H H' → Q (.bl (bs.any fun y => decide (y = b))) H'
theorem ok_Net_body_is_taken (T : Txt K mg Z) : MethOk P w K mg base Z.Net 1 "body_is_taken" ["self", "body"] (spBodyTaken Z) := by
  refine T.f_Net_body_is_taken.ok sc_Net_body_is_taken (fun vs H Q E h => ?_) (fun f cdv A outer s H vs Q E hr h => ⟨_, (pss_one (ps_ret (pe_lock (pe_callB (cr_any rfl) (by rfl) T.n_any (by decide +kernel) (pa_cons (pe_lc (te := tOp rEq (tFld K (tVar 2) "body") (tVar 1)) (own := [("client", 2)]) (g := gName 2) (tt := tYes) rfl sc_Net_body_is_taken.nd (pi_values (pe_fld (pv 0) rfl)) (blkOk_by (own := [("client", 2)]) (N := ["self", "body", "client"]) (sc := defScope s_Net_body_is_taken) (by decide +kernel)) (fun _ _ _ _ _ => by exact pg_name (i := 2) sc_Net_body_is_taken.nd rfl (Or.inl rfl)) (fun _ _ _ _ _ => by exact pts_nil) (fun _ _ _ _ _ => by exact (pe_cmpR op_eq (pe_fld (pv 2) rfl) (pv 1) (nomark _)))) pa_nil))))), ?_⟩)
  · obtain ⟨na, dx, wa, kd, cd, pd, pl, t, dr, b, lc, bs, rfl, _⟩ := h; rfl
  · obtain ⟨na, dx, wa, kd, cd, pd, pl, t, dr, b, lc, bs, rfl, hn, hc, hl, pr, q⟩ := h
    have nn : na ≠ cd := ne_of hn hc (fun z => nomatch z)
    refine ⟨cd, .dK (encR lc), hc, trivial, fun od => ?_⟩
    have hx : upd H cd (.frz od (.dK (encR lc))) na = some (oNet Z dx wa t kd cd pd pl dr) := by rw [upd_ne nn]; exact hn
    refine ⟨_, rfl, na, Z.Net, dx, _, _, rfl, hx, T.cl_Net, T.na_Net_clients, lk_Net_clients, cd, od, encR lc, rfl, upd_same, fun D hD => ?_⟩
    have nD : cd ≠ D := ne_of_none upd_same hD
    have hl' : (encR lc).length = lc.length := by unfold encR; rw [List.length_map]
    have hlb := Paired.len pr
    refine lc_it walk_values (fun i H' => (∀ a o, upd H cd (.frz od (.dK (encR lc))) a = some o → H' a = some o) ∧ H' D = some (.lst ((bs.take i).map fun y => V.bl (decide (y = b))))) ⟨fun a o e => ?_, upd_same⟩ (fun i H' _ h => h.1 cd _ upd_same) ?_ ?_
    · rw [upd_ne (ne_of_none e hD)]; exact e
    · rintro i x H1 H2 hi ⟨fr, hD1⟩ ⟨rfl, k, hk⟩
      have hil : i < lc.length := by omega
      have hge : (encR lc)[i]? = some (ik lc[i].1, .ref lc[i].2) := by
        unfold encR
        rw [List.getElem?_map, List.getElem?_eq_getElem hil]; rfl
      rw [hge] at hk
      have ex : V.ref lc[i].2 = x := congrArg Prod.snd (Option.some.inj hk)
      subst ex
      obtain ⟨y, hy, dc, n, lt, wd, im, idd, bo, hcl⟩ := Paired.at pr (List.getElem?_eq_getElem hil)
      have hcl2 : H2 lc[i].2 = some (oClient Z dc n y lt wd im idd bo) := fr _ _ (by rw [upd_ne (ne_of hcl hc (fun z => nomatch z))]; exact hcl)
      refine ⟨rfl, ⟨_, rfl, lc[i].2, Z.Client, dc, _, _, rfl, hcl2, T.cl_Client, T.na_Client_body, lk_Client_body, _, rfl, rfl, _, hD1, ?_, ?_⟩⟩
      · rw [List.length_map, List.length_take]
        exact sizeL (by omega)
      · have nDc : ∀ a o, upd H cd (.frz od (.dK (encR lc))) a = some o → a ≠ D := fun a o e => ne_of_none e hD
        refine ⟨fun a o e => by rw [upd_ne (nDc a o e)]; exact fr a o e, ?_⟩
        rw [upd_same, take_snoc hy, List.map_append]
        have e : decide (V.int y = V.int b) = decide (y = b) := decide_eq_decide.mpr ⟨fun z => V.int.inj z, fun z => by rw [z]⟩
        rw [e]; rfl
    · rintro H1 ⟨fr, hD1⟩
      rw [hl', hlb, List.take_length] at hD1
      have e2 : (bs.map fun y => V.bl (decide (y = b))) = (bs.map fun y => decide (y = b)).map V.bl := by rw [List.map_map]; rfl
      rw [e2] at hD1
      refine ⟨D, _, rfl, SqL.of hD1, fr cd _ upd_same, ?_⟩
      have e3 : (bs.map fun y => decide (y = b)).any id = bs.any fun y => decide (y = b) := by rw [List.any_map]; rfl
      rw [e3]
      refine q _ fun a o e => ?_
      by_cases z : a = cd
      · subst z
        rw [upd_same]
        rw [hc] at e; exact e
      · rw [upd_ne z]
        exact fr a o (by rw [upd_ne z]; exact e)
end MN
set_option Elab.async false
set_option maxRecDepth 100000
set_option maxHeartbeats 2000000
set_option linter.unusedVariables false
namespace MN
open PySem PySem.Spec PyProof.Rows L2
open Vbwsah (Input Numbered Known Client State Packet Ring)
variable {P : Program} {w : World} {K : PySem.W.Frag} {mg : Str → Option Value} {base : Heap} {Z : Cs}
/-! ### how the state lies in the heap. Each thing that may change has a label; what has none never changes -/
inductive Lab where
  | told | net | world | kept | clients | peers | packets
  | cl (c : Nat) | clW (c : Nat) | clI (c : Nat) | pe (c : Nat) | peS (c : Nat) | peW (c : Nat)
  deriving DecidableEq
/-- what a call may change -/
def OwnM (y : Lab) : Prop := y ≠ .told
abbrev Lb := Addr → Option Lab
/-- all but what has a label in M stands -/
def Keep (L : Lb) (M : Lab → Prop) (H H' : Hp) : Prop := ∀ a o, H a = some o → (∀ x, L a = some x → ¬ M x) → H' a = some o
def LSame (H : Hp) (L L' : Lb) : Prop := ∀ a o, H a = some o → L' a = L a
theorem Keep.of {L : Lb} {M : Lab → Prop} {H H' : Hp} (k : Keep L M H H') {a : Addr} {o : HO} {x : Lab} (h : H a = some o) (l : L a = some x) (n : ¬ M x) : H' a = some o := k a o h fun y e => by rw [l] at e; cases e; exact n
theorem Keep.un {L : Lb} {M : Lab → Prop} {H H' : Hp} (k : Keep L M H H') {a : Addr} {o : HO} (h : H a = some o) (l : L a = none) : H' a = some o := k a o h fun y e => by rw [l] at e; cases e
theorem lab_ne {L : Lb} {a b : Addr} {x y : Lab} (h1 : L a = some x) (h2 : L b = some y) (n : x ≠ y) : a ≠ b := fun e => by rw [e, h2] at h1; exact n (Option.some.inj h1).symm
theorem un_ne {L : Lb} {a b : Addr} {y : Lab} (h1 : L a = none) (h2 : L b = some y) : a ≠ b := fun e => by rw [e, h2] at h1; cases h1
theorem WAt.keep {H H' : Hp} {a : Addr} {t : Vbwsae.T Int} (h : WAt H a t) (k : ∀ o, H a = some o → H' a = some o) : WAt H' a t := by
  obtain ⟨kvs, e, r⟩ := h
  exact ⟨kvs, k _ e, r⟩
/-- worlds by ticks, rising (the specification has the latest first) -/
def RingR (L : Lb) (H : Hp) (l : List (Int × Addr)) (r : Ring) : Prop := Paired (fun p (q : Nat × Vbwsah.World) => p.1 = (q.1 : Int) ∧ L p.2 = none ∧ WAt H p.2 q.2) l r.reverse
def InsR (L : Lb) (H : Hp) (l : List (Int × Addr)) (m : List Numbered) : Prop := Paired (fun p (q : Numbered) => p.1 = (q.1 : Int) ∧ L p.2 = none ∧ H p.2 = some (tupI q.2)) l m
section
variable {L L' : Lb} {M : Lab → Prop} {H H' : Hp}
theorem RingR.keep {l : List (Int × Addr)} {r : Ring} (h : RingR L H l r) (k : Keep L M H H') (hl : LSame H L L') : RingR L' H' l r :=
  Paired.mapP h fun p q ⟨a, b, c⟩ => by
    obtain ⟨kvs, e, r⟩ := c
    exact ⟨a, by rw [hl _ _ e]; exact b, kvs, k.un e b, r⟩
theorem InsR.keep {l : List (Int × Addr)} {r : List Numbered} (h : InsR L H l r) (k : Keep L M H H') (hl : LSame H L L') : InsR L' H' l r :=
  Paired.mapP h fun p q ⟨a, b, c⟩ => ⟨a, by rw [hl _ _ c]; exact b, k.un c b⟩
theorem InsR.rel {l : List (Int × Addr)} {m : List Numbered} (h : InsR L H l m) : InRel H l m := Paired.mapP h fun p q ⟨a, _, c⟩ => ⟨a, c⟩
end
/-- what a client knows of its clock: an object that never changes -/
def BoAt (Z : Cs) (L : Lb) (H : Hp) (bo : V) : Option Vbwsah.Clock → Prop
  | none => bo = .non
  | some k => ∃ (a dx : Addr) (m j : Int), bo = .ref a ∧ L a = none ∧ H a = some (oBounds Z dx k.time m j) ∧ ClockOk k m j
theorem BoAt.keep {L L' : Lb} {M : Lab → Prop} {H H' : Hp} {bo : V} {o : Option Vbwsah.Clock} (h : BoAt Z L H bo o) (k : Keep L M H H') (hl : LSame H L L') : BoAt Z L' H' bo o := by
  cases o with
  | none => exact h
  | some c =>
    obtain ⟨a, dx, m, j, e, l, ha, ok⟩ := h
    exact ⟨a, dx, m, j, e, by rw [hl _ _ ha]; exact l, k.un ha l, ok⟩
/-- a client's own side -/
structure ClP (Z : Cs) (L : Lb) (H : Hp) (p : Int × Addr) (q : Nat × Client) (dx wd idd : Addr) (lw li : List (Int × Addr)) (bo : V) : Prop where
  num : p.1 = (q.1 : Int)
  l1 : L p.2 = some (.cl q.1)
  l2 : L wd = some (.clW q.1)
  l3 : L idd = some (.clI q.1)
  h1 : H p.2 = some (oClient Z dx (q.1 : Int) (q.2.body : Int) (Vbwsah.newest q.2.ring : Int) wd ((q.2.next : Int) - 1) idd bo)
  h2 : H wd = some (.dK (encR lw))
  r2 : RingR L H lw q.2.ring
  h3 : H idd = some (.dK (encR li))
  r3 : InsR L H li q.2.inputs
  rb : BoAt Z L H bo q.2.clock
def ClAt (Z : Cs) (L : Lb) (H : Hp) (p : Int × Addr) (q : Nat × Client) : Prop := ∃ dx wd idd lw li bo, ClP Z L H p q dx wd idd lw li bo
/-- the server's side of a client -/
structure PeP (Z : Cs) (L : Lb) (H : Hp) (p : Int × Addr) (q : Nat × Known) (dx sd wtd : Addr) (ls lw : List (Int × Addr)) (m : List Numbered) : Prop where
  num : p.1 = (q.1 : Int)
  l1 : L p.2 = some (.pe q.1)
  l2 : L sd = some (.peS q.1)
  l3 : L wtd = some (.peW q.1)
  h1 : H p.2 = some (oPeer Z dx (q.1 : Int) (q.2.body : Int) (q.2.ack : Int) sd wtd)
  h2 : H sd = some (.dK (encR ls))
  r2 : RingR L H ls q.2.sent
  h3 : H wtd = some (.dK (encR lw))
  r3 : InsR L H lw m
  pm : m.Perm q.2.inputs
def PeAt (Z : Cs) (L : Lb) (H : Hp) (p : Int × Addr) (q : Nat × Known) : Prop := ∃ dx sd wtd ls lw m, PeP Z L H p q dx sd wtd ls lw m
def PkAt (Z : Cs) (L : Lb) (H : Hp) (a : Addr) : Packet → Prop
  | .down c t b d => L a = none ∧ ∃ (dx ch : Addr) (rs : List Addr), H a = some (oDown Z dx (c : Int) (t : Int) (b : Int) ch) ∧ L ch = none ∧ (∀ r ∈ rs, L r = none) ∧ H ch = some (.lst (rs.map V.ref)) ∧ Paired (ChgAt H) rs d
  | .up c t is => L a = none ∧ ∃ (dx ud : Addr) (l : List (Int × Addr)), H a = some (oUp Z dx (c : Int) (t : Int) ud) ∧ L ud = none ∧ H ud = some (.dK (encR l)) ∧ InsR L H l is
section
variable {L L' : Lb} {M : Lab → Prop} {H H' : Hp}
theorem ClAt.keep {p : Int × Addr} {q : Nat × Client} (h : ClAt Z L H p q) (k : Keep L M H H') (hl : LSame H L L') (n1 : ¬ M (.cl q.1)) (n2 : ¬ M (.clW q.1)) (n3 : ¬ M (.clI q.1)) : ClAt Z L' H' p q := by
  obtain ⟨dx, wd, idd, lw, li, bo, c⟩ := h
  exact ⟨dx, wd, idd, lw, li, bo, c.num, by rw [hl _ _ c.h1]; exact c.l1, by rw [hl _ _ c.h2]; exact c.l2, by rw [hl _ _ c.h3]; exact c.l3, k.of c.h1 c.l1 n1, k.of c.h2 c.l2 n2, c.r2.keep k hl, k.of c.h3 c.l3 n3, c.r3.keep k hl, c.rb.keep k hl⟩
theorem PeAt.keep {p : Int × Addr} {q : Nat × Known} (h : PeAt Z L H p q) (k : Keep L M H H') (hl : LSame H L L') (n1 : ¬ M (.pe q.1)) (n2 : ¬ M (.peS q.1)) (n3 : ¬ M (.peW q.1)) : PeAt Z L' H' p q := by
  obtain ⟨dx, sd, wtd, ls, lw, m, c⟩ := h
  exact ⟨dx, sd, wtd, ls, lw, m, c.num, by rw [hl _ _ c.h1]; exact c.l1, by rw [hl _ _ c.h2]; exact c.l2, by rw [hl _ _ c.h3]; exact c.l3, k.of c.h1 c.l1 n1, k.of c.h2 c.l2 n2, c.r2.keep k hl, k.of c.h3 c.l3 n3, c.r3.keep k hl, c.pm⟩
theorem PkAt.keep {a : Addr} {p : Packet} (h : PkAt Z L H a p) (k : Keep L M H H') (hl : LSame H L L') : PkAt Z L' H' a p := by
  cases p with
  | down c t b d =>
    obtain ⟨l0, dx, ch, rs, h1, l1, lr, h2, pr⟩ := h
    refine ⟨by rw [hl _ _ h1]; exact l0, dx, ch, rs, k.un h1 l0, by rw [hl _ _ h2]; exact l1, fun r hr => ?_, k.un h2 l1, ?_⟩
    · obtain ⟨y, _, hy⟩ := Paired.memL pr hr
      rw [hl _ _ hy]; exact lr r hr
    · have go : ∀ {rs : List Addr} {d : List (Vbwsae.Change Int)}, (∀ r ∈ rs, L r = none) → Paired (ChgAt H) rs d → Paired (ChgAt H') rs d := fun {rs d} h0 q => by
        induction q with
        | nil => exact .nil
        | cons r t ih => exact .cons (k.un r (h0 _ List.mem_cons_self)) (ih fun r hr => h0 r (List.mem_cons_of_mem _ hr))
      exact go lr pr
  | up c t is =>
    obtain ⟨l0, dx, ud, l, h1, l1, h2, r⟩ := h
    exact ⟨by rw [hl _ _ h1]; exact l0, dx, ud, l, k.un h1 l0, by rw [hl _ _ h2]; exact l1, k.un h2 l1, r.keep k hl⟩
end
/-- where the net's own things lie -/
structure Ads where
  (dx wa kd cd pd pl : Addr)
  kw : List (Key × V)
  (lk lc lp : List (Int × Addr))
  pk : List Addr
structure StA (Z : Cs) (L : Lb) (H : Hp) (net : Addr) (s : State) (A : Ads) : Prop where
  l0 : L net = some .net
  lw : L A.wa = some .world
  lk : L A.kd = some .kept
  lc : L A.cd = some .clients
  lp : L A.pd = some .peers
  ll : L A.pl = some .packets
  h0 : H net = some (oNet Z A.dx A.wa (s.tick : Int) A.kd A.cd A.pd A.pl (s.drift : Int))
  hw : H A.wa = some (.dK A.kw)
  rw : RepW A.kw s.world
  hk : H A.kd = some (.dK (encR A.lk))
  rk : RingR L H A.lk s.past
  hc : H A.cd = some (.dK (encR A.lc))
  rc : Paired (ClAt Z L H) A.lc s.clients
  hp : H A.pd = some (.dK (encR A.lp))
  rp : Paired (PeAt Z L H) A.lp s.known
  hl : H A.pl = some (.lst (A.pk.map V.ref))
  rl : Paired (PkAt Z L H) A.pk s.packets
  lin : ∀ a, L a ≠ none → H a ≠ none
def St (Z : Cs) (L : Lb) (H : Hp) (net : Addr) (s : State) : Prop := ∃ A, StA Z L H net s A
theorem StA.fresh {L : Lb} {H : Hp} {net : Addr} {s : State} {A : Ads} (h : StA Z L H net s A) {p : Addr} (e : H p = none) : L p = none := by
  cases q : L p with
  | none => rfl
  | some x => exact absurd e (h.lin p (by rw [q]; simp))
theorem Keep.refl (L : Lb) (M : Lab → Prop) (H : Hp) : Keep L M H H := fun _ _ e _ => e
theorem LSame.refl (H : Hp) (L : Lb) : LSame H L L := fun _ _ _ => rfl
theorem Keep.new {L : Lb} {M : Lab → Prop} {H : Hp} {p : Addr} {o : HO} (h : H p = none) : Keep L M H (upd H p o) := fun a u e _ => by rw [upd_ne (ne_of_none e h)]; exact e
theorem Same.keep {L : Lb} {M : Lab → Prop} {H H' : Hp} (s : Same H H') : Keep L M H H' := fun a u e _ => s a u e
theorem Paired.keepAll {α β : Type} {F G : α → β → Prop} {l : List α} {m : List β} (h : Paired F l m) (k : ∀ a b, F a b → G a b) : Paired G l m := Paired.mapP h k
/-- nothing that the net has is changed -/
theorem StA.same {L : Lb} {H H' : Hp} {net : Addr} {s : State} {A : Ads} (h : StA Z L H net s A) (k : Same H H') : StA Z L H' net s A := by
  have kp : Keep L (fun _ => False) H H' := Same.keep k
  have ls := LSame.refl H L
  exact ⟨h.l0, h.lw, h.lk, h.lc, h.lp, h.ll, k _ _ h.h0, k _ _ h.hw, h.rw, k _ _ h.hk, h.rk.keep kp ls, k _ _ h.hc, Paired.mapP h.rc fun p q c => c.keep kp ls id id id, k _ _ h.hp, Paired.mapP h.rp fun p q c => c.keep kp ls id id id, k _ _ h.hl,
    Paired.mapP h.rl fun p q c => c.keep kp ls, fun a n z => by
      cases q : H a with
      | none => exact h.lin a n q
      | some o => rw [k a o q] at z; cases z⟩
theorem rows_num {R : Int × Addr → Nat × Client → Prop} (hR : ∀ p q, R p q → p.1 = (q.1 : Int)) {l : List (Int × Addr)} {m : List (Nat × Client)} (h : Paired R l m) : l.map (·.1) = m.map fun q => (q.1 : Int) := by
  induction h with
  | nil => rfl
  | cons r t ih => rw [List.map_cons, List.map_cons, ih, hR _ _ r]
/-- a call on the net: what is handed over, what comes back -/
def spCall (Z : Cs) (c : Vbwsah.Call) (args : List V) : Sp := fun vs H Q _ => ∃ (L : Lb) (net : Addr) (s : State) (n : Nat) (hist : Nat → Vbwsah.World), vs = .ref net :: args ∧ St Z L H net s ∧ HInv n s hist ∧ n ≤ 300 ∧
  ∀ H' L' p, St Z L' H' net (Vbwsah.step s c).1 → Keep L OwnM H H' → LSame H L L' → H p = none → H' p = some (.lst ((Vbwsah.step s c).2.map V.int)) → Q (.ref p) H'
end MN
set_option Elab.async false
set_option maxRecDepth 100000
set_option maxHeartbeats 2000000
set_option linter.unusedVariables false
namespace MN
open PySem PySem.Spec PyProof.Rows L2
open Vbwsah (Input Numbered Known Client State Packet Ring)
variable {P : Program} {w : World} {K : PySem.W.Frag} {mg : Str → Option Value} {base : Heap} {Z : Cs}
/-- what is wanted behind a call -/
abbrev Wants (Z : Cs) (c : Vbwsah.Call) (L : Lb) (H : Hp) (net : Addr) (s : State) (Q : VK) : Prop := ∀ H' L' p, St Z L' H' net (Vbwsah.step s c).1 → Keep L OwnM H H' → LSame H L L' → H p = none → H' p = some (.lst ((Vbwsah.step s c).2.map V.int)) → Q (.ref p) H'
/-- the state stays -/
theorem Wants.same {c : Vbwsah.Call} {L : Lb} {H : Hp} {net : Addr} {s : State} {A : Ads} {Q : VK} (h : StA Z L H net s A) (q : Wants Z c L H net s Q) {xs : List Int} (e : Vbwsah.step s c = (s, xs)) {H1 : Hp} (k : Same H H1) {p : Addr} (hp : H1 p = none) : Q (.ref p) (upd H1 p (.lst (xs.map V.int))) := by
  have k2 : Same H (upd H1 p (.lst (xs.map V.int))) := k.trans (Same.new hp)
  refine q _ L p ?_ (Same.keep k2) (LSame.refl H L) (k.free hp) ?_
  · rw [e]; exact ⟨A, h.same k2⟩
  · rw [upd_same, e]
/-- only the server's world has changed -/
theorem StA.withWorld {L : Lb} {H : Hp} {net : Addr} {s : State} {A : Ads} (h : StA Z L H net s A) {kw : List (Key × V)} {t : Vbwsah.World} (r : RepW kw t) : StA Z L (upd H A.wa (.dK kw)) net { s with world := t } { A with kw := kw } := by
  have kp : Keep L (fun x => x = .world) H (upd H A.wa (.dK kw)) := fun a o e n => by
    by_cases z : a = A.wa
    · rw [z] at n; exact absurd rfl (n _ h.lw)
    · rw [upd_ne z]; exact e
  have ls := LSame.refl H L
  exact ⟨h.l0, h.lw, h.lk, h.lc, h.lp, h.ll, kp.of h.h0 h.l0 (by decide), upd_same, r, kp.of h.hk h.lk (by decide), h.rk.keep kp ls, kp.of h.hc h.lc (by decide), Paired.mapP h.rc fun p q c => c.keep kp ls (by simp) (by simp) (by simp), kp.of h.hp h.lp (by decide), Paired.mapP h.rp fun p q c => c.keep kp ls (by simp) (by simp) (by simp), kp.of h.hl h.ll (by decide),
    Paired.mapP h.rl fun p q c => c.keep kp ls, fun a n z => by
      by_cases e : a = A.wa
      · rw [e, upd_same] at z; cases z
      · rw [upd_ne e] at z; exact h.lin a n z⟩
theorem StA.keepWorld {L : Lb} {H : Hp} {net : Addr} {s : State} {A : Ads} (h : StA Z L H net s A) (o : HO) : Keep L OwnM H (upd H A.wa o) := fun a u e n => by
  rw [upd_ne (fun z => absurd (show OwnM _ from by nofun) (n .world (by rw [z]; exact h.lw)))]
  exact e
/-- the answer is a new list, behind a change of the world -/
theorem Wants.world {c : Vbwsah.Call} {L : Lb} {H : Hp} {net : Addr} {s : State} {A : Ads} {Q : VK} (h : StA Z L H net s A) (q : Wants Z c L H net s Q) {xs : List Int} {kw : List (Key × V)} {t : Vbwsah.World} (r : RepW kw t) (e : Vbwsah.step s c = ({ s with world := t }, xs)) {p : Addr}
    (hp : upd H A.wa (.dK kw) p = none) : Q (.ref p) (upd (upd H A.wa (.dK kw)) p (.lst (xs.map V.int))) := by
  have np : p ≠ A.wa := fun z => by rw [z, upd_same] at hp; cases hp
  refine q _ L p ?_ (fun a o e n => ?_) (LSame.refl H L) (by rw [upd_ne np] at hp; exact hp) ?_
  · rw [e]; exact ⟨_, (h.withWorld r).same (Same.new hp)⟩
  · have := h.keepWorld (.dK kw) a o e n
    rw [upd_ne (ne_of_none this hp)]; exact this
  · rw [upd_same, e]
theorem inR_inside (lo hi z : Int) : inR lo hi z = Vbwsah.inside z lo hi := rfl
/-! values without a change of the heap -/
section
variable {σ : L2.St} {H : Hp} {ta tb tc te : TE}
theorem val_B1 {f : Int → Bool} {i : Int} (h : Val te σ H (.int i)) : Val (tCall (spB1 f) [] E0 (tCons te tNil)) σ H (.bl (f i)) := fun Q q => h _ ⟨i, rfl, q⟩
theorem val_B2 {f : Int → Int → Bool} {i j : Int} (h : Val ta σ H (.int i)) (h2 : Val tb σ H (.int j)) : Val (tCall (spB2 f) [] E0 (tCons ta (tCons tb tNil))) σ H (.bl (f i j)) := fun Q q => h _ (h2 _ ⟨i, j, rfl, q⟩)
theorem val_I1 {f : Int → Int} {i : Int} (h : Val te σ H (.int i)) : Val (tCall (spI1 f) [] E0 (tCons te tNil)) σ H (.int (f i)) := fun Q q => h _ ⟨i, rfl, q⟩
theorem val_andV {a b : Bool} (h1 : Val ta σ H (.bl a)) (h2 : Val tb σ H (.bl b)) : Val (tAndV ta tb) σ H (.bl (a && b)) := fun Q q => h1 _ ⟨a, rfl, by
  cases a with
  | true => exact iteT (h2 Q q)
  | false => exact iteF q⟩
theorem val_has {a : Addr} {kvs : List (Key × V)} {b : Int} (h1 : Val ta σ H (.ref a)) (h2 : Val tb σ H (.int b)) (ha : H a = some (.dK kvs)) : Val (tCall spHasBody [] E0 (tCons ta (tCons tb tNil))) σ H (.bl (valV kvs (ik (1000 + b))).isSome) := fun Q q => h1 _ (h2 _ ⟨a, kvs, b, rfl, ha, q⟩)
theorem ans_chainLe {lo z hi : Int} (h1 : Val ta σ H (.int lo)) (h2 : Val tb σ H (.int z)) (h3 : Val tc σ H (.int hi)) : Val (tChain (rI0 fun i j => .bl (decide (i ≤ j))) (rI0 fun i j => .bl (decide (i ≤ j))) ta tb tc) σ H (.bl (inR lo hi z)) := fun Q q => h1 _ (h2 _ ⟨lo, z, rfl, rfl, _, rfl, by
  unfold inR at q
  by_cases c : lo ≤ z
  · rw [decide_eq_true c] at q ⊢
    exact iteT (h3 _ ⟨z, hi, rfl, rfl, q⟩)
  · rw [decide_eq_false c] at q ⊢
    exact iteF q⟩)
/-- a field of the net -/
theorem val_net {na dx wa kd cd pd pl : Addr} {t dr : Int} {f : Str} {v : V} (h : Val te σ H (.ref na)) (hn : H na = some (oNet Z dx wa t kd cd pd pl dr)) (T : Txt K mg Z) (n : NoAttr K Z.Net f) (l : (fNet (.ref wa) (.int t) (.ref kd) (.ref cd) (.ref pd) (.ref pl) (.int dr)).lookup f = some v) : Val (tFld K te f) σ H v := val_fld h hn T.cl_Net n l
/-- a list of numbers made -/
theorem st_retL {D : Ends} {xs : List V} {t : TA} (h : ∀ Q : List V → Hp → Prop, Q xs H → t σ H Q) (hl : xs.length ≤ 1000) (q : ∀ p, H p = none → D.rt (.ref p) (upd H p (.lst xs))) : tRet (tLst t) D σ H := h _ ⟨Nat.le_trans hl (by decide), q⟩
end
theorem has_eq {kw : List (Key × V)} {t : Vbwsah.World} (r : RepW kw t) (b : Nat) : (valV kw (ik (1000 + (b : Int)))).isSome = Vbwsah.isBody t b := by
  rw [show 1000 + (b : Int) = ((1000 + b : Nat) : Int) by omega, r.get]
  unfold Vbwsah.isBody Vbwsah.countKey
  cases Vbwsae.get t (1000 + b) <;> rfl
theorem ok_make_body (T : Txt K mg Z) : DefOk P w K mg base 3 "make_body" ["net", "body", "x", "y", "vx", "vy"] (fun vs H Q E => ∃ b x y u v : Int, spCall Z (.body b x y u v) [.int b, .int x, .int y, .int u, .int v] vs H Q E) := by
  refine T.f_make_body.ok sc_make_body (fun vs H Q E h => ?_) (fun f cdv A outer s H vs Q E hr h => ⟨_, (pss_cons (ps_set (i := 6) sc_make_body.nd rfl (Or.inl rfl) (pe_and (pe_def (ok_is_place T) hr (pa_cons (pv 2) pa_nil)) (pe_one (pe_def (ok_is_place T) hr (pa_cons (pv 3) pa_nil)))))
      (pss_cons (ps_set (i := 7) sc_make_body.nd rfl (Or.inl rfl) (pe_and (pe_def (ok_is_speed T) hr (pa_cons (pv 4) pa_nil)) (pe_one (pe_def (ok_is_speed T) hr (pa_cons (pv 5) pa_nil)))))
      (pss_cons (ps_if (pt_not (PW.pt (pw_and (pt_val (pe_def (ok_is_body_number T) hr (pa_cons (pv 1) pa_nil))) (pw_and (pt_val (pv 6)) (pw_and1 (pt_val (pv 7))))))) (pss_one (ps_ret (pe_lst (pa_cons (pe_gc T.c_OUT_OF_RANGE) pa_nil)))) pss_nil)
      (pss_cons (ps_if (pt_val (pe_def (ok_has_body T) hr (pa_cons (pe_fld (pv 0) rfl) (pa_cons (pv 1) pa_nil)))) (pss_one (ps_ret (pe_lst (pa_cons (pe_gc T.c_TAKEN) pa_nil)))) pss_nil)
      (pss_cons (ps_expr (pe_def (ok_put_body T) hr (pa_cons (pe_fld (pv 0) rfl) (pa_cons (pv 1) (pa_cons (pv 2) (pa_cons (pv 3) (pa_cons (pv 4) (pa_cons (pv 5) pa_nil))))))))
      (pss_one (ps_ret (pe_lst (pa_cons pe_int pa_nil))))))))), ?_⟩)
  · obtain ⟨b, x, y, u, v, L, net, s, n, hist, rfl, _⟩ := h; rfl
  · obtain ⟨b, x, y, u, v, L, net, st, n, hist, rfl, ⟨A, sa⟩, iv, hn, q⟩ := h
    have q : Wants Z (.body b x y u v) L H net st Q := q
    have h0 := sa.h0
    refine st_seq (st_set (val_andV (val_B1 (val_var rfl)) (val_B1 (val_var rfl))) ?_)
    refine st_seq (st_set (val_andV (val_B1 (val_var rfl)) (val_B1 (val_var rfl))) ?_)
    have at1 : ∀ {D : Ends} {t1 t2 : TS} {σ : L2.St}, σ = [some (.ref net), some (.int b), some (.int x), some (.int y), some (.int u), some (.int v), some (.bl (inR 0 1000 x && inR 0 1000 y)), some (.bl (inR (-20) 20 u && inR (-20) 20 v))] →
        Ans (tNot (tAnd (tB (tCall (spB1 fun i => decide (0 ≤ i) && decide (i < 8)) [] E0 (tCons (tVar 1) tNil))) (tAnd (tB (tVar 6)) (tB (tVar 7))))) σ H (!((decide (0 ≤ b) && decide (b < 8)) && ((inR 0 1000 x && inR 0 1000 y) && (inR (-20) 20 u && inR (-20) 20 v)))) := by
      intro D t1 t2 σ e
      subst e
      exact ans_not (ans_and2 (ans_val (val_B1 (val_var rfl))) (ans_and2 (ans_val (val_var rfl)) (ans_val (val_var rfl))))
    have a1 := at1 (D := ⟨fun _ _ => True, fun _ _ => True, fun _ _ => True, fun _ _ => True⟩) (t1 := tNext) (t2 := tNext) rfl
    have hst : Vbwsah.step st (.body b x y u v) = if ((decide (0 ≤ b) && decide (b < 8)) && ((inR 0 1000 x && inR 0 1000 y) && (inR (-20) 20 u && inR (-20) 20 v))) = true then (if Vbwsah.isBody st.world b.toNat = true then (st, [-3]) else
        ({ st with world := Vbwsae.put (Vbwsah.countKey b.toNat) 0 (Vbwsae.put (Vbwsah.keyOf b.toNat 3) v (Vbwsae.put (Vbwsah.keyOf b.toNat 2) u (Vbwsae.put (Vbwsah.keyOf b.toNat 1) y (Vbwsae.put (Vbwsah.keyOf b.toNat 0) x st.world)))) }, [0])) else (st, [-2]) := by
      rw [Vbwsah.step]
      have e1 : (Vbwsah.inside b 0 7) = (decide (0 ≤ b) && decide (b < 8)) := by
        unfold Vbwsah.inside
        congr 1
        exact decide_eq_decide.mpr (by omega)
      have e2 : ([x, y].all fun z => Vbwsah.inside z 0 Vbwsah.ROOM) = (inR 0 1000 x && inR 0 1000 y) := by
        simp only [List.all_cons, List.all_nil, Bool.and_true]; rfl
      have e3 : ([u, v].all Vbwsah.isSpeed) = (inR (-20) 20 u && inR (-20) 20 v) := by
        simp only [List.all_cons, List.all_nil, Bool.and_true]; rfl
      rw [e1, e2, e3]
      generalize (decide (0 ≤ b) && decide (b < 8)) = B1
      generalize (inR 0 1000 x && inR 0 1000 y) = B2
      generalize (inR (-20) 20 u && inR (-20) 20 v) = B3
      cases B1 <;> cases B2 <;> cases B3 <;> simp [Vbwsah.no]
    generalize hok : ((decide (0 ≤ b) && decide (b < 8)) && ((inR 0 1000 x && inR 0 1000 y) && (inR (-20) 20 u && inR (-20) 20 v))) = ok at a1 hst
    cases ok with
    | false =>
      rw [if_neg (by simp)] at hst
      refine st_seq (st_yes a1 ?_)
      exact st_retL (fun Q q => q) (by decide) fun p hp => q.same sa hst (Same.refl H) hp
    | true =>
      rw [if_pos rfl] at hst
      refine st_seq (st_no a1 ?_)
      have hb0 : 0 ≤ b ∧ b < 8 := by
        simp only [Bool.and_eq_true, decide_eq_true_eq] at hok
        exact hok.1
      have eb : b = (b.toNat : Int) := by omega
      have a2 : Ans (tB (tCall spHasBody [] E0 (tCons (tFld K (tVar 0) "world") (tCons (tVar 1) tNil)))) [some (.ref net), some (.int b), some (.int x), some (.int y), some (.int u), some (.int v), some (.bl (inR 0 1000 x && inR 0 1000 y)), some (.bl (inR (-20) 20 u && inR (-20) 20 v))] H (Vbwsah.isBody st.world b.toNat) := by
        have e := ans_val (σ := [some (.ref net), some (.int b), some (.int x), some (.int y), some (.int u), some (.int v), some (.bl (inR 0 1000 x && inR 0 1000 y)), some (.bl (inR (-20) 20 u && inR (-20) 20 v))]) (val_has (ta := tFld K (tVar 0) "world") (tb := tVar 1) (b := b) (val_net (f := "world") (val_var rfl) h0 T T.na_Net_world lk_Net_world) (val_var rfl) sa.hw)
        rw [eb, has_eq sa.rw] at e
        rw [← eb] at e
        exact e
      cases hbd : Vbwsah.isBody st.world b.toNat with
      | true =>
        rw [hbd] at a2 hst
        rw [if_pos rfl] at hst
        refine st_seq (st_yes a2 ?_)
        exact st_retL (fun Q q => q) (by decide) fun p hp => q.same sa hst (Same.refl H) hp
      | false =>
        rw [hbd] at a2 hst
        rw [if_neg (by simp)] at hst
        refine st_seq (st_no a2 ?_)
        have hz : A.kw.length < 100000 := by
          have := size_good iv.world
          rw [sa.rw.len]; omega
        refine ⟨_, rfl, net, Z.Net, A.dx, _, _, rfl, h0, T.cl_Net, T.na_Net_world, lk_Net_world, _, rfl, _, rfl, _, rfl, _, rfl, _, rfl, A.wa, A.kw, b, x, y, u, v, rfl, sa.hw, hz, ?_⟩
        refine ⟨by decide, fun p hp => ?_⟩
        refine q.world sa (t := _) ?_ hst hp
        have r5 := sa.rw.put5 (b := b.toNat) (by omega) x y u v
        rw [← eb] at r5
        exact r5
end MN
set_option Elab.async false
set_option maxRecDepth 100000
set_option maxHeartbeats 2000000
set_option linter.unusedVariables false
namespace MN
open PySem PySem.Spec PyProof.Rows L2
open Vbwsah (Input Numbered Known Client State Packet Ring)
variable {P : Program} {w : World} {K : PySem.W.Frag} {mg : Str → Option Value} {base : Heap} {Z : Cs}
section
variable {σ : L2.St} {H : Hp} {D : Ends} {c : TT} {t1 t2 : TS} {ta tb : TE}
theorem st_y {b : Bool} (h : Ans c σ H b) (e : b = true) (q : t1 D σ H) : tIfS c t1 t2 D σ H := st_yes (e ▸ h) q
theorem st_n {b : Bool} (h : Ans c σ H b) (e : b = false) (q : t2 D σ H) : tIfS c t1 t2 D σ H := st_no (e ▸ h) q
theorem val_din {a : Addr} {kvs : List (Key × V)} {i : Int} (h1 : Val ta σ H (.int i)) (h2 : Val tb σ H (.ref a)) (ha : H a = some (.dK kvs)) : Ans (tTest (tDIn ta tb)) σ H (valV kvs (ik i)).isSome := fun Q q => h1 _ (h2 _ ⟨a, _, rfl, DGet.k (k := ik i) ha, _, rfl, q⟩)
theorem val_dnotin {a : Addr} {kvs : List (Key × V)} {i : Int} (h1 : Val ta σ H (.int i)) (h2 : Val tb σ H (.ref a)) (ha : H a = some (.dK kvs)) : Ans (tTest (tDNotIn ta tb)) σ H (!(valV kvs (ik i)).isSome) := fun Q q => h1 _ (h2 _ ⟨a, _, rfl, DGet.k (k := ik i) ha, _, rfl, q⟩)
end
theorem ok_is_free_key (T : Txt K mg Z) : DefOk P w K mg base 1 "is_free_key" ["key"] (spB1 (inR 2000 2063)) := by
  refine T.f_is_free_key.ok sc_is_free_key (fun vs H Q E h => ?_) (fun f cdv A outer s H vs Q E hr h => ⟨_, (pss_one (ps_ret (pe_chain op_le op_le (pe_gc T.c_FIRST_FREE_KEY) (pv 0) (pe_gc T.c_LAST_FREE_KEY)))), ?_⟩)
  · obtain ⟨i, rfl, _⟩ := h; rfl
  · obtain ⟨i, rfl, q⟩ := h
    exact ⟨_, rfl, _, _, rfl, rfl, chain_le q⟩
theorem world_val {kw : List (Key × V)} {t : Vbwsah.World} (r : RepW kw t) {k : Int} (h : 0 ≤ k) : valV kw (ik k) = (Vbwsae.get t k.toNat).map V.int := by
  have e : k = (k.toNat : Int) := by omega
  conv => lhs; rw [e]
  rw [r.get]
theorem ok_unset_key (T : Txt K mg Z) : DefOk P w K mg base 2 "unset_key" ["net", "key"] (fun vs H Q E => ∃ k : Int, spCall Z (.unset k) [.int k] vs H Q E) := by
  refine T.f_unset_key.ok sc_unset_key (fun vs H Q E h => ?_) (fun f cdv A outer s H vs Q E hr h => ⟨_, (pss_cons (ps_if (pt_not (pt_val (pe_def (ok_is_free_key T) hr (pa_cons (pv 1) pa_nil)))) (pss_one (ps_ret (pe_lst (pa_cons (pe_gc T.c_OUT_OF_RANGE) pa_nil)))) pss_nil)
      (pss_cons (ps_if (pt_cmp (pc_dnotin (hu_of hr) (pv 1) (pe_fld (pv 0) rfl))) (pss_one (ps_ret (pe_lst (pa_cons (pe_gc T.c_NO_SUCH) pa_nil)))) pss_nil)
      (pss_cons (ps_expr (pe_dpop1 (pe_fld (pv 0) rfl) (pv 1) ⟨rfl, rfl, rfl, rfl⟩))
      (pss_one (ps_ret (pe_lst (pa_cons pe_int pa_nil))))))), ?_⟩)
  · obtain ⟨k, L, net, s, n, hist, rfl, _⟩ := h; rfl
  · obtain ⟨k, L, net, st, n, hist, rfl, ⟨A, sa⟩, iv, hn, q⟩ := h
    have q : Wants Z (.unset k) L H net st Q := q
    have h0 := sa.h0
    by_cases c1 : inR 2000 2063 k = true
    · refine st_seq (st_n (ans_not (ans_val (val_B1 (val_var rfl)))) (by rw [c1]; rfl) ?_)
      have hk : 2000 ≤ k ∧ k ≤ 2063 := by
        unfold inR at c1
        simp only [Bool.and_eq_true, decide_eq_true_eq] at c1
        exact c1
      have ev := world_val sa.rw (k := k) (by omega)
      cases g : Vbwsae.get st.world k.toNat with
      | none =>
        rw [g] at ev
        refine st_seq (st_y (val_dnotin (val_var rfl) (val_net (f := "world") (val_var rfl) h0 T T.na_Net_world lk_Net_world) sa.hw) (by rw [ev]; rfl) ?_)
        refine st_retL (fun Q q => q) (by decide) fun p hp => q.same sa (xs := [-1]) ?_ (Same.refl H) hp
        rw [Vbwsah.step, ← inR_inside, c1, g]; rfl
      | some v =>
        rw [g] at ev
        refine st_seq (st_n (val_dnotin (val_var rfl) (val_net (f := "world") (val_var rfl) h0 T T.na_Net_world lk_Net_world) sa.hw) (by rw [ev]; rfl) ?_)
        refine ⟨_, rfl, net, Z.Net, A.dx, _, _, rfl, h0, T.cl_Net, T.na_Net_world, lk_Net_world, A.wa, rfl, .inl ⟨_, .inl sa.hw⟩, _, rfl, A.kw, ik k, _, sa.hw, rfl, ev, ?_⟩
        refine ⟨by decide, fun p hp => ?_⟩
        refine q.world sa (t := Vbwsae.del k.toNat st.world) ?_ (xs := [0]) ?_ hp
        · have := sa.rw.drop k.toNat
          rw [show ((k.toNat : Nat) : Int) = k by omega] at this
          exact this
        · rw [Vbwsah.step, ← inR_inside, c1, g]; rfl
    · have c1 : inR 2000 2063 k = false := by simpa using c1
      refine st_seq (st_y (ans_not (ans_val (val_B1 (val_var rfl)))) (by rw [c1]; rfl) ?_)
      refine st_retL (fun Q q => q) (by decide) fun p hp => q.same sa (xs := [-2]) ?_ (Same.refl H) hp
      rw [Vbwsah.step, ← inR_inside, c1]; rfl
theorem ok_set_key (T : Txt K mg Z) : DefOk P w K mg base 3 "set_key" ["net", "key", "value"] (fun vs H Q E => ∃ k z : Int, spCall Z (.set_ k z) [.int k, .int z] vs H Q E) := by
  refine T.f_set_key.ok sc_set_key (fun vs H Q E h => ?_) (fun f cdv A outer s H vs Q E hr h => ⟨_, (pss_cons (ps_if (pt_val (pe_def (ok_is_body_key T) hr (pa_cons (pv 1) pa_nil))) (pss_cons (ps_if (pt_not (pt_val (pe_def (ok_has_body T) hr (pa_cons (pe_fld (pv 0) rfl) (pa_cons (pe_def (ok_body_of_key T) hr (pa_cons (pv 1) pa_nil)) pa_nil))))) (pss_one (ps_ret (pe_lst (pa_cons (pe_gc T.c_NO_SUCH) pa_nil)))) pss_nil)
      (pss_one (ps_set (i := 3) sc_set_key.nd rfl (Or.inl rfl) (pe_def (ok_fits_body_key T) hr (pa_cons (pv 1) (pa_cons (pv 2) pa_nil)))))) (pss_one (ps_set (i := 3) sc_set_key.nd rfl (Or.inl rfl) (pe_and (pe_def (ok_is_free_key T) hr (pa_cons (pv 1) pa_nil)) (pe_one (pe_chain op_le op_le (pe_un un_neg (pe_gc T.c_GREATEST_FREE_VALUE)) (pv 2) (pe_gc T.c_GREATEST_FREE_VALUE)))))))
      (pss_cons (ps_if (pt_not (pt_val (pv 3))) (pss_one (ps_ret (pe_lst (pa_cons (pe_gc T.c_OUT_OF_RANGE) pa_nil)))) pss_nil)
      (pss_cons (ps_dput (hu_of hr) (pe_fld (pv 0) rfl) (pv 1) (pv 2) rfl)
      (pss_one (ps_ret (pe_lst (pa_cons pe_int pa_nil))))))), ?_⟩)
  · obtain ⟨k, z, L, net, s, n, hist, rfl, _⟩ := h; rfl
  · obtain ⟨k, z, L, net, st, n, hist, rfl, ⟨A, sa⟩, iv, hn, q⟩ := h
    have q : Wants Z (.set_ k z) L H net st Q := q
    have h0 := sa.h0
    have hz : A.kw.length < 100000 := by
      have := size_good iv.world
      rw [sa.rw.len]; omega
    have e31 : Vbwsah.inside k 0 31 = (decide (0 ≤ k) && decide (k < 32)) := by
      unfold Vbwsah.inside
      congr 1
      exact decide_eq_decide.mpr (by omega)
    by_cases c1 : (decide (0 ≤ k) && decide (k < 32)) = true
    · have hk : 0 ≤ k ∧ k < 32 := by
        simp only [Bool.and_eq_true, decide_eq_true_eq] at c1
        exact c1
      have hb : (valV A.kw (ik (1000 + k / 4))).isSome = Vbwsah.isBody st.world (k.toNat / 4) := by
        have e : k / 4 = ((k.toNat / 4 : Nat) : Int) := by omega
        rw [e]; exact has_eq sa.rw _
      refine st_seq (st_y (ans_val (val_B1 (val_var rfl))) c1 ?_)
      by_cases c2 : Vbwsah.isBody st.world (k.toNat / 4) = true
      · refine st_seq (st_n (ans_not (ans_val (val_has (b := k / 4) (val_net (f := "world") (val_var rfl) h0 T T.na_Net_world lk_Net_world) (val_I1 (f := fun i => i / 4) (val_var rfl)) sa.hw))) (by rw [hb, c2]; rfl) ?_)
        refine st_set (val_B2 (val_var rfl) (val_var rfl)) ?_
        have ef : (if k.toNat % 4 < 2 then Vbwsah.inside z 0 Vbwsah.ROOM else Vbwsah.isSpeed z) = (if k % 4 < 2 then inR 0 1000 z else inR (-20) 20 z) := by
          by_cases c : k % 4 < 2
          · rw [if_pos c, if_pos (by omega)]; rfl
          · rw [if_neg c, if_neg (by omega)]; rfl
        by_cases c3 : (if k % 4 < 2 then inR 0 1000 z else inR (-20) 20 z) = true
        · refine st_seq (st_n (ans_not (ans_val (val_var rfl))) (by rw [c3]; rfl) ?_)
          refine ⟨_, rfl, _, rfl, net, Z.Net, A.dx, _, _, rfl, h0, T.cl_Net, T.na_Net_world, lk_Net_world, _, rfl, A.wa, _, rfl, .inl ⟨A.kw, ik k, sa.hw, rfl, sizeL (by omega), rfl⟩, ?_⟩
          refine ⟨by decide, fun p hp => ?_⟩
          refine q.world sa (t := Vbwsae.put k.toNat z st.world) ?_ (xs := [0]) ?_ hp
          · have := sa.rw.put (k := k.toNat) (by omega) z
            rw [show ((k.toNat : Nat) : Int) = k by omega] at this
            exact this
          · rw [Vbwsah.step, e31, c1, if_pos rfl, if_neg (by rw [c2]; decide), ef, c3]; rfl
        · have c3 : (if k % 4 < 2 then inR 0 1000 z else inR (-20) 20 z) = false := by simpa using c3
          refine st_seq (st_y (ans_not (ans_val (val_var rfl))) (by rw [c3]; rfl) ?_)
          refine st_retL (fun Q q => q) (by decide) fun p hp => q.same sa (xs := [-2]) ?_ (Same.refl H) hp
          rw [Vbwsah.step, e31, c1, if_pos rfl, if_neg (by rw [c2]; decide), ef, c3]; rfl
      · have c2 : Vbwsah.isBody st.world (k.toNat / 4) = false := by simpa using c2
        refine st_seq (st_y (ans_not (ans_val (val_has (b := k / 4) (val_net (f := "world") (val_var rfl) h0 T T.na_Net_world lk_Net_world) (val_I1 (f := fun i => i / 4) (val_var rfl)) sa.hw))) (by rw [hb, c2]; rfl) ?_)
        refine st_retL (fun Q q => q) (by decide) fun p hp => q.same sa (xs := [-1]) ?_ (Same.refl H) hp
        rw [Vbwsah.step, e31, c1, if_pos rfl, if_pos c2]; rfl
    · have c1 : (decide (0 ≤ k) && decide (k < 32)) = false := by simpa using c1
      refine st_seq (st_n (ans_val (val_B1 (val_var rfl))) c1 ?_)
      refine st_set (val_andV (val_B1 (val_var rfl)) (ans_chainLe (lo := -1000000) (hi := 1000000) (fun Q q => ⟨_, rfl, q⟩) (val_var rfl) val_c)) ?_
      have ef : (Vbwsah.inside k 2000 2063 = false ∨ Vbwsah.inside z (-Vbwsah.BIG) Vbwsah.BIG = false) ↔ (inR 2000 2063 k && inR (-1000000) 1000000 z) = false := by
        rw [Bool.and_eq_false_iff]; rfl
      by_cases c3 : (inR 2000 2063 k && inR (-1000000) 1000000 z) = true
      · have hk : 2000 ≤ k ∧ k ≤ 2063 := by
          unfold inR at c3
          simp only [Bool.and_eq_true, decide_eq_true_eq] at c3
          exact c3.1
        refine st_seq (st_n (ans_not (ans_val (val_var rfl))) (by rw [c3]; rfl) ?_)
        refine ⟨_, rfl, _, rfl, net, Z.Net, A.dx, _, _, rfl, h0, T.cl_Net, T.na_Net_world, lk_Net_world, _, rfl, A.wa, _, rfl, .inl ⟨A.kw, ik k, sa.hw, rfl, sizeL (by omega), rfl⟩, ?_⟩
        refine ⟨by decide, fun p hp => ?_⟩
        refine q.world sa (t := Vbwsae.put k.toNat z st.world) ?_ (xs := [0]) ?_ hp
        · have := sa.rw.put (k := k.toNat) (by omega) z
          rw [show ((k.toNat : Nat) : Int) = k by omega] at this
          exact this
        · rw [Vbwsah.step, e31, c1, if_neg (by decide), if_neg (by rw [ef, c3]; decide)]
      · have c3 : (inR 2000 2063 k && inR (-1000000) 1000000 z) = false := by simpa using c3
        refine st_seq (st_y (ans_not (ans_val (val_var rfl))) (by rw [c3]; rfl) ?_)
        refine st_retL (fun Q q => q) (by decide) fun p hp => q.same sa (xs := [-2]) ?_ (Same.refl H) hp
        rw [Vbwsah.step, e31, c1, if_neg (by decide), if_pos (by rw [ef, c3])]; rfl
end MN
set_option Elab.async false
set_option maxRecDepth 100000
set_option maxHeartbeats 2000000
set_option linter.unusedVariables false
namespace MN
open PySem PySem.Spec PyProof.Rows L2
open Vbwsah (Input Numbered Known Client State Packet Ring)
variable {P : Program} {w : World} {K : PySem.W.Frag} {mg : Str → Option Value} {base : Heap} {Z : Cs}
/-- sorted, and the same as the keys: the keys -/
theorem sorted_keys {t : Vbwsae.T Int} (wt : WF t) {ys ks : List Int} (h1 : ys.Perm ks) (h2 : ys.Pairwise (· ≤ ·)) (h3 : ks.Perm (nk t)) : ys = nk t := by
  have hs := nk_sorted wt
  have nd : ys.Nodup := (h1.trans h3).nodup_iff.mpr (hs.imp fun {x y} (h : x < y) => by omega)
  refine sorted_ext ?_ hs fun x => (h1.trans h3).mem_iff
  exact (List.pairwise_and_iff.mpr ⟨h2, nd⟩).imp fun {x y} h => by have := h.1; have := h.2; omega
/-- a world has 104 keys at most -/
theorem size_104 {c : Nat} {t : Vbwsae.T Int} (g : GoodW c t) : Vbwsae.size t ≤ 104 := by
  rw [size_pairs]
  have h1 : (Vbwsae.pairs t).length = (keys t).length := by unfold keys; rw [List.length_map]
  rw [h1]
  have h2 : (keys t).length ≤ (List.range 32 ++ (List.range 8).map (1000 + ·) ++ (List.range 64).map (2000 + ·)).length := nodup_len (List.Pairwise.imp (fun {x y} (h : x < y) => by omega) (keys_sorted g.wf)) fun x hx => by
    obtain ⟨v, ev⟩ := Option.isSome_iff_exists.mp ((mem_keys g.wf).mp hx)
    have := g.key x v ev
    simp only [List.mem_append, List.mem_range, List.mem_map]
    unfold okKey at this
    rcases this with z | z | z
    · exact .inl (.inl (by omega))
    · exact .inl (.inr ⟨x - 1000, by omega, by omega⟩)
    · exact .inr ⟨x - 2000, by omega, by omega⟩
  exact h2
/-- the answer's row of pairs -/
def prs (t : Vbwsah.World) (i : Nat) : List Int := ((Vbwsae.pairs t).take i).flatMap fun p => [(p.1 : Int), p.2]
theorem prs_len (t : Vbwsah.World) (i : Nat) : (prs t i).length ≤ 2 * (Vbwsae.pairs t).length := by
  unfold prs
  rw [List.length_flatMap]
  have : ∀ l : List (Nat × Int), ((l.map fun p => [(p.1 : Int), p.2].length)).sum = 2 * l.length := fun l => by
    induction l with
    | nil => rfl
    | cons a l ih => rw [List.map_cons, List.sum_cons, ih, List.length_cons]; show 2 + 2 * l.length = 2 * (l.length + 1); omega
  rw [this, List.length_take]; omega
theorem prs_succ {t : Vbwsah.World} {i : Nat} {p : Nat × Int} (h : (Vbwsae.pairs t)[i]? = some p) : prs t (i + 1) = prs t i ++ [(p.1 : Int), p.2] := by
  unfold prs
  rw [take_snoc h, List.flatMap_append]; rfl
def spListed : Sp := fun vs H Q _ => ∃ (a : Addr) (kvs : List (Key × V)) (t : Vbwsah.World), vs = [.ref a] ∧ H a = some (.dK kvs) ∧ RepW kvs t ∧ Vbwsae.size t ≤ 200 ∧ ∀ H' p, Same H H' → H p = none → H' p = some (.lst ((Vbwsah.pairsRow t).map V.int)) → Q (.ref p) H'
theorem ok_listed (T : Txt K mg Z) : DefOk P w K mg base 1 "listed" ["world"] spListed := by
  refine T.f_listed.ok sc_listed (fun vs H Q E h => ?_) (fun f cdv A outer s H vs Q E hr h => ⟨_, (pss_cons (ps_set (i := 1) sc_listed.nd rfl (Or.inl rfl) (pe_lst (pa_cons (pe_callB call_lenD (by rfl) T.n_len (by decide +kernel) (pa_cons (pv 0) pa_nil)) pa_nil)))
      (pss_cons (ps_for PassesOwn.never rfl (pi_list (pe_callB (cr_sortedDA rfl) (by rfl) T.n_sorted (by decide +kernel) (pa_cons (pv 0) pa_nil))) (pg_name (i := 2) sc_listed.nd rfl (Or.inl rfl)) (pss_one (ps_expr (pe_bm PySem.F.plainAttrs_list PySem.F.slot_list_extend PySem.F.type_list_extend mt_extend (pv 1) (pa_cons (pe_lst (pa_cons (pv 2) (pa_cons (pe_dget (hu_of hr) (pv 0) (pv 2) (fun _ _ => rfl)) pa_nil))) pa_nil)))))
      (pss_one (ps_ret (pv 1))))), ?_⟩)
  · obtain ⟨a, kvs, t, rfl, _⟩ := h; rfl
  · obtain ⟨a, kvs, t, rfl, ha, rw0, hsz, q⟩ := h
    have wf := rw0.wf
    obtain ⟨ks, ek, pk, lk⟩ := rw0.keysI
    refine ⟨_, rfl, a, kvs, rfl, ha, ?_⟩
    refine ⟨(by show 1 ≤ sizeLine; decide), fun C hC => ?_⟩
    have s0 : Same H (upd H C (.lst [.int (kvs.length : Int)])) := Same.new hC
    refine ⟨_, rfl, a, kvs, ks, rfl, .inl (s0 _ _ ha), ek, fun ys Lx hy1 hy2 hL => ?_⟩
    have ey := sorted_keys wf hy1 hy2 pk
    have hCL : C ≠ Lx := ne_of_none upd_same hL
    have s1 := s0.trans (Same.new (o := .lst (ys.map V.int)) hL)
    refine ⟨Lx, rfl, ⟨_, SqL.of upd_same⟩, for_list (K := K) (a := Lx) (xs := ys.map V.int) (fun i σ H' => ∃ (v2 : Option V), σ = [some (.ref a), some (.ref C), v2] ∧ Same H H' ∧ H' Lx = some (.lst (ys.map V.int)) ∧
      H' C = some (.lst (([(kvs.length : Int)] ++ prs t i).map V.int))) ⟨none, rfl, s1, upd_same, ?_⟩ (fun i σ H' _ ⟨_, _, _, h, _⟩ => SqL.of h) ?_ ?_⟩
    · rw [upd_ne hCL, upd_same]; rfl
    · rintro i x σ H' hi ⟨v2, rfl, sm, hL', hC'⟩
      rw [ey] at hi
      have hi' : ∃ p, (Vbwsae.pairs t)[i]? = some p ∧ x = V.int (p.1 : Int) := by
        unfold nk keys at hi
        rw [List.getElem?_map, List.getElem?_map, List.getElem?_map] at hi
        cases e : (Vbwsae.pairs t)[i]? with
        | none => rw [e] at hi; cases hi
        | some j => rw [e] at hi; exact ⟨j, rfl, (Option.some.inj hi).symm⟩
      obtain ⟨⟨k, v⟩, hp, rfl⟩ := hi'
      have hg : Vbwsae.get t k = some v := (mem_pairs wf).mp (List.mem_of_getElem? hp)
      have hv : valV kvs (ik (k : Int)) = some (.int v) := by rw [rw0.get, hg]; rfl
      have hl : (prs t i).length ≤ 10000 := by
        have := prs_len t i
        rw [size_pairs] at hsz
        omega
      refine ⟨_, rfl, .inl ⟨rfl, _, SqL.of hC'⟩, _, rfl, _, rfl, _, rfl, a, .int v, rfl, ?_, ?_⟩
      · rw [← hv]; exact DGet.k (k := ik (k : Int)) (sm _ _ ha)
      refine ⟨(by show 2 ≤ sizeLine; decide), fun B hB => ?_⟩
      have nBC : C ≠ B := ne_of_none hC' hB
      refine ⟨C, B, _, _, rfl, rfl, by rw [upd_ne nBC]; exact hC', upd_same, ?_, ?_⟩
      · rw [List.length_map, List.length_append]
        exact Nat.le_of_lt (sizeL (by show 1 + _ + 2 < _; omega))
      · refine ⟨_, rfl, MN.Same.mut (sm.trans (Same.new hB)) hC, ?_, ?_⟩
        · rw [upd_ne (Ne.symm hCL), upd_ne (ne_of_none hL' hB)]; exact hL'
        · rw [upd_same, prs_succ hp]
          simp
    · rintro σ H' ⟨v2, rfl, sm, hL', hC'⟩
      refine ⟨_, rfl, ?_⟩
      rw [ey] at hC'
      have hlen : ((nk t).map V.int).length = (Vbwsae.pairs t).length := by unfold nk keys; simp
      rw [hlen] at hC'
      refine q _ C sm hC ?_
      rw [hC', rw0.len, size_pairs]
      unfold prs
      rw [List.take_length]; rfl
theorem pairsRow_len (t : Vbwsah.World) : (Vbwsah.pairsRow t).length ≤ 2 * Vbwsae.size t + 1 := by
  have h := prs_len t (Vbwsae.pairs t).length
  unfold prs at h
  rw [List.take_length] at h
  unfold Vbwsah.pairsRow
  rw [size_pairs, List.length_cons]
  omega
theorem ok_tell_world (T : Txt K mg Z) : DefOk P w K mg base 2 "tell_world" ["net"] (spCall Z .world []) := by
  refine T.f_tell_world.ok sc_tell_world (fun vs H Q E h => ?_) (fun f cdv A outer s H vs Q E hr h => ⟨_, (pss_one (ps_ret (pe_op op_cat (pe_lst (pa_cons pe_int (pa_cons (pe_fld (pv 0) rfl) pa_nil))) (pe_def (ok_listed T) hr (pa_cons (pe_fld (pv 0) rfl) pa_nil))))), ?_⟩)
  · obtain ⟨L, net, s, n, hist, rfl, _⟩ := h; rfl
  · obtain ⟨L, net, st, n, hist, rfl, ⟨A, sa⟩, iv, hn, q⟩ := h
    have q : Wants Z .world L H net st Q := q
    have h0 := sa.h0
    have hsz := size_104 iv.world
    refine ⟨_, rfl, net, Z.Net, A.dx, _, _, rfl, h0, T.cl_Net, T.na_Net_tick, lk_Net_tick, ?_⟩
    refine ⟨(by show 2 ≤ sizeLine; decide), fun C hC => ?_⟩
    have s0 : Same H (upd H C (.lst [.int 0, .int (st.tick : Int)])) := Same.new hC
    refine ⟨_, rfl, net, Z.Net, A.dx, _, _, rfl, s0 _ _ h0, T.cl_Net, T.na_Net_world, lk_Net_world, A.wa, A.kw, st.world, rfl, s0 _ _ sa.hw, sa.rw, by omega, fun H2 p2 s2 hp2 hp2' => ?_⟩
    have hl := pairsRow_len st.world
    refine ⟨C, p2, _, _, rfl, rfl, s2 _ _ upd_same, hp2', ?_, fun p hp => ?_⟩
    · rw [List.length_map]
      exact Nat.le_of_lt (sizeL (by show 2 + _ < _; omega))
    · have := q.same sa (xs := 0 :: (st.tick : Int) :: Vbwsah.pairsRow st.world) (by rw [Vbwsah.step]) (s0.trans s2) hp
      exact this
end MN
set_option Elab.async false
set_option maxRecDepth 100000
set_option maxHeartbeats 2000000
set_option linter.unusedVariables false
namespace MN
open PySem PySem.Spec PyProof.Rows L2
open Vbwsah (Input Numbered Known Client State Packet Ring)
variable {P : Program} {w : World} {K : PySem.W.Frag} {mg : Str → Option Value} {base : Heap} {Z : Cs}
/-- a thing made, with two dicts of its own -/
theorem ne_of_none' {H : Hp} {a b : Addr} {o : HO} (h : H a = some o) (h2 : H b = none) : b ≠ a := fun z => by rw [z, h] at h2; cases h2
theorem made3 {H : Hp} {x dx p r : Addr} {a b o1 o2 o3 : HO} (hx : H x = none) (hdx : H dx = none) (hp : upd (upd H dx a) x b p = none) (hr : upd (upd H dx a) x b r = none) (pr : p ≠ r) :
    Same H (upd (upd (upd (upd (upd H dx a) x b) p o1) r o2) x o3) ∧ H p = none ∧ H r = none ∧ x ≠ p ∧ x ≠ r ∧ upd (upd (upd (upd (upd H dx a) x b) p o1) r o2) x o3 x = some o3 ∧ upd (upd (upd (upd (upd H dx a) x b) p o1) r o2) x o3 p = some o1 ∧ upd (upd (upd (upd (upd H dx a) x b) p o1) r o2) x o3 r = some o2 := by
  have n1 : x ≠ p := ne_of_none upd_same hp
  have n2 : x ≠ r := ne_of_none upd_same hr
  have s1 : Same H (upd (upd H dx a) x b) := MN.Same.mut (Same.new hdx) hx
  refine ⟨MN.Same.mut (MN.Same.mut (MN.Same.mut s1 (s1.free hp)) (s1.free hr)) hx, s1.free hp, s1.free hr, n1, n2, upd_same, ?_, ?_⟩
  · rw [upd_ne (Ne.symm n1), upd_ne pr, upd_same]
  · rw [upd_ne (Ne.symm n2), upd_same]
def spAddClient (Z : Cs) : Sp := fun vs H Q _ => ∃ (na dx wa kd cd pd pl : Addr) (t dr n b : Int) (kc kp : List (Key × V)), vs = [.ref na, .int n, .int b] ∧ H na = some (oNet Z dx wa t kd cd pd pl dr) ∧ H cd = some (.dK kc) ∧ H pd = some (.dK kp) ∧ kc.length ≤ 1000 ∧ kp.length ≤ 1000 ∧ cd ≠ pd ∧
  ∀ H' ca dc wd idd pe dp sd wtd, (∀ a o, H a = some o → a ≠ cd → a ≠ pd → H' a = some o) → H ca = none → H wd = none → H idd = none → H pe = none → H sd = none → H wtd = none → [ca, wd, idd, pe, sd, wtd].Nodup →
    H' ca = some (oClient Z dc n b 0 wd 0 idd .non) → H' wd = some (.dK []) → H' idd = some (.dK []) → H' pe = some (oPeer Z dp n b 0 sd wtd) → H' sd = some (.dK []) → H' wtd = some (.dK []) →
    H' cd = some (.dK (putK kc (ik n) (.ref ca))) → H' pd = some (.dK (putK kp (ik n) (.ref pe))) → Q .non H'
theorem ok_Net_add_client (T : Txt K mg Z) : MethOk P w K mg base Z.Net 3 "add_client" ["self", "number", "body"] (spAddClient Z) := by
  refine T.f_Net_add_client.ok sc_Net_add_client (fun vs H Q E h => ?_) (fun f cdv A outer s H vs Q E hr h => ⟨_, (pss_cons (ps_dput (hu_of hr) (pe_fld (pv 0) rfl) (pv 1) (pe_new (mk_Client T) hr (pa_cons (pv 1) (pa_cons (pv 2) pa_nil))) rfl)
      (pss_one (ps_dput (hu_of hr) (pe_fld (pv 0) rfl) (pv 1) (pe_new (mk_Peer T) hr (pa_cons (pv 1) (pa_cons (pv 2) pa_nil))) rfl))), ?_⟩)
  · obtain ⟨na, dx, wa, kd, cd, pd, pl, t, dr, n, b, kc, kp, rfl, _⟩ := h; rfl
  · obtain ⟨na, dx, wa, kd, cd, pd, pl, t, dr, n, b, kc, kp, rfl, hn, hc, hp, lc, lp, ncp, q⟩ := h
    refine ⟨_, rfl, _, rfl, fun ca dc hca hdc _ => ⟨ca, dc, n, b, rfl, upd_same, fun wd idd hwd hid nwi => ⟨rfl, ?_⟩⟩⟩
    obtain ⟨s1, fw, fi, n1, n2, e1, e2, e3⟩ := made3 (o1 := .dK []) (o2 := .dK []) (o3 := oClient Z dc n b 0 wd 0 idd .non) hca hdc hwd hid nwi
    generalize upd (upd (upd (upd (upd H dc (.own ca)) ca (.ins Z.Client dc [])) wd (.dK [])) idd (.dK [])) ca (oClient Z dc n b 0 wd 0 idd .non) = H1 at s1 e1 e2 e3 ⊢
    have nac : na ≠ cd := ne_of hn hc (fun z => nomatch z)
    have nap : na ≠ pd := ne_of hn hp (fun z => nomatch z)
    refine ⟨_, rfl, na, Z.Net, dx, _, _, rfl, s1 _ _ hn, T.cl_Net, T.na_Net_clients, lk_Net_clients, _, rfl, cd, _, rfl, .inl ⟨kc, ik n, s1 _ _ hc, rfl, sizeL (by omega), rfl⟩, ?_⟩
    have k1 : ∀ a o, H1 a = some o → a ≠ cd → upd H1 cd (.dK (putK kc (ik n) (.ref ca))) a = some o := fun a o e z => by rw [upd_ne z]; exact e
    have e0 : upd H1 cd (.dK (putK kc (ik n) (.ref ca))) cd = some (.dK (putK kc (ik n) (.ref ca))) := upd_same
    have fr2 : ∀ a, upd H1 cd (.dK (putK kc (ik n) (.ref ca))) a = none → a ≠ cd ∧ H1 a = none ∧ H a = none := fun a e => by
      have z : a ≠ cd := fun z => by rw [z, upd_same] at e; cases e
      rw [upd_ne z] at e
      exact ⟨z, e, s1.free e⟩
    generalize upd H1 cd (.dK (putK kc (ik n) (.ref ca))) = H2 at k1 e0 fr2 ⊢
    refine ⟨_, rfl, _, rfl, fun pe dp hpe hdp _ => ⟨pe, dp, n, b, rfl, upd_same, fun sd wtd hsd hwtd nsw => ⟨rfl, ?_⟩⟩⟩
    obtain ⟨s3, fs, fwt, n3, n4, e4, e5, e6⟩ := made3 (o1 := .dK []) (o2 := .dK []) (o3 := oPeer Z dp n b 0 sd wtd) hpe hdp hsd hwtd nsw
    generalize upd (upd (upd (upd (upd H2 dp (.own pe)) pe (.ins Z.Peer dp [])) sd (.dK [])) wtd (.dK [])) pe (oPeer Z dp n b 0 sd wtd) = H3 at s3 e4 e5 e6 ⊢
    have cca : ca ≠ cd := ne_of_none' hc hca
    have cwd : wd ≠ cd := ne_of_none' hc fw
    have cid : idd ≠ cd := ne_of_none' hc fi
    have pca : ca ≠ pd := ne_of_none' hp hca
    have pwd : wd ≠ pd := ne_of_none' hp fw
    have pid : idd ≠ pd := ne_of_none' hp fi
    have fpe := (fr2 _ hpe)
    have fsd := (fr2 _ fs)
    have fwd := (fr2 _ fwt)
    refine ⟨_, rfl, na, Z.Net, dx, _, _, rfl, s3 _ _ (k1 _ _ (s1 _ _ hn) nac), T.cl_Net, T.na_Net_peers, lk_Net_peers, _, rfl, pd, _, rfl, .inl ⟨kp, ik n, s3 _ _ (k1 _ _ (s1 _ _ hp) (Ne.symm ncp)), rfl, sizeL (by omega), rfl⟩, ?_⟩
    refine q _ ca dc wd idd pe dp sd wtd (fun a o e z1 z2 => by rw [upd_ne z2]; exact s3 _ _ (k1 _ _ (s1 _ _ e) z1)) hca fw fi fpe.2.2 fsd.2.2 fwd.2.2 ?_ ?_ ?_ ?_ ?_ ?_ ?_ ?_ upd_same
    · simp only [List.nodup_cons, List.mem_cons, List.not_mem_nil, not_or, not_false_eq_true, or_false, List.nodup_nil, and_true]
      refine ⟨⟨n1, n2, ?_, ?_, ?_⟩, ⟨nwi, ?_, ?_, ?_⟩, ⟨?_, ?_, ?_⟩, ⟨n3, n4⟩, nsw⟩
      · exact ne_of_none e1 fpe.2.1
      · exact ne_of_none e1 fsd.2.1
      · exact ne_of_none e1 fwd.2.1
      · exact ne_of_none e2 fpe.2.1
      · exact ne_of_none e2 fsd.2.1
      · exact ne_of_none e2 fwd.2.1
      · exact ne_of_none e3 fpe.2.1
      · exact ne_of_none e3 fsd.2.1
      · exact ne_of_none e3 fwd.2.1
    · rw [upd_ne pca]; exact s3 _ _ (k1 _ _ e1 cca)
    · rw [upd_ne pwd]; exact s3 _ _ (k1 _ _ e2 cwd)
    · rw [upd_ne pid]; exact s3 _ _ (k1 _ _ e3 cid)
    · rw [upd_ne (ne_of_none' hp fpe.2.2)]; exact e4
    · rw [upd_ne (ne_of_none' hp fsd.2.2)]; exact e5
    · rw [upd_ne (ne_of_none' hp fwd.2.2)]; exact e6
    · rw [upd_ne ncp]; exact s3 _ _ e0
/-- the tick's number that a client's body has followed -/
def spFollowedBy (Z : Cs) : Sp := fun vs H Q _ => ∃ (na dx wa kd cd pd pl pe dp sd wtd : Addr) (t dr n b kt : Int) (kw kp : List (Key × V)) (v : V), vs = [.ref na, .int n] ∧ H na = some (oNet Z dx wa t kd cd pd pl dr) ∧ Rd H pd (.dK kp) ∧ valV kp (ik n) = some (.ref pe) ∧ H pe = some (oPeer Z dp n b kt sd wtd) ∧ H wa = some (.dK kw) ∧ valV kw (ik (1000 + b)) = some v ∧ Q v H
theorem ok_Net_followed_by (T : Txt K mg Z) : MethOk P w K mg base Z.Net 2 "followed_by" ["self", "number"] (spFollowedBy Z) := by
  refine T.f_Net_followed_by.ok sc_Net_followed_by (fun vs H Q E h => ?_) (fun f cdv A outer s H vs Q E hr h => ⟨_, (pss_one (ps_ret (pe_dget (hu_of hr) (pe_fld (pv 0) rfl) (pe_def (ok_followed_key T) hr (pa_cons (pe_fld (pe_dget (hu_of hr) (pe_fld (pv 0) rfl) (pv 1) (fun _ _ => rfl)) rfl) pa_nil)) (fun _ _ => rfl)))), ?_⟩)
  · obtain ⟨na, dx, wa, kd, cd, pd, pl, pe, dp, sd, wtd, t, dr, n, b, kt, kw, kp, v, rfl, _⟩ := h; rfl
  · obtain ⟨na, dx, wa, kd, cd, pd, pl, pe, dp, sd, wtd, t, dr, n, b, kt, kw, kp, v, rfl, hn, hp, ep, hpe, hw, ev, q⟩ := h
    refine ⟨_, rfl, na, Z.Net, dx, _, _, rfl, hn, T.cl_Net, T.na_Net_world, lk_Net_world, _, rfl, na, Z.Net, dx, _, _, rfl, hn, T.cl_Net, T.na_Net_peers, lk_Net_peers, _, rfl, pd, .ref pe, rfl, .inl ⟨kp, ik n, hp, rfl, ep.symm⟩, pe, Z.Peer, dp, _, _, rfl, hpe, T.cl_Peer, T.na_Peer_body, lk_Peer_body, b, rfl, wa, v, rfl, ?_, q⟩
    rw [← ev]; exact DGet.k (k := ik (1000 + b)) hw
end MN
set_option Elab.async false
set_option maxRecDepth 100000
set_option maxHeartbeats 2000000
set_option linter.unusedVariables false
namespace MN
open PySem PySem.Spec PyProof.Rows L2
open Vbwsah (Input Numbered Known Client State Packet Ring)
variable {P : Program} {w : World} {K : PySem.W.Frag} {mg : Str → Option Value} {base : Heap} {Z : Cs}
/-! ### a row of things by numbers: what is at a number, and what it is behind a change there -/
theorem Paired.app {α β : Type} {F : α → β → Prop} : ∀ {l l2 : List α} {m m2 : List β}, Paired F l m → Paired F l2 m2 → Paired F (l ++ l2) (m ++ m2)
  | _, _, _, _, .nil, h => h
  | _, _, _, _, .cons r t, h => .cons r (Paired.app t h)
structure Split {α : Type} (R : Int × Addr → Nat × α → Prop) (l : List (Int × Addr)) (m : List (Nat × α)) (c : Nat) (p : Int × Addr) (x : α) (l1 l2 : List (Int × Addr)) (m1 m2 : List (Nat × α)) : Prop where
  r : R p (c, x)
  num : p.1 = (c : Int)
  el : l = l1 ++ p :: l2
  em : m = m1 ++ (c, x) :: m2
  p1 : Paired R l1 m1
  p2 : Paired R l2 m2
  n1 : ∀ y ∈ m1, y.1 ≠ c
  n2 : ∀ y ∈ m2, y.1 ≠ c
  fnd : (m.find? fun y => y.1 == c) = some (c, x)
  val : valV (encR l) (ik (c : Int)) = some (.ref p.2)
theorem rows_split {α : Type} {R : Int × Addr → Nat × α → Prop} (hR : ∀ p q, R p q → p.1 = (q.1 : Int)) {l : List (Int × Addr)} {m : List (Nat × α)} (h : Paired R l m) (nd : (m.map (·.1)).Nodup) (c : Nat) :
    ((m.find? fun y => y.1 == c) = none ∧ ∀ p ∈ l, p.1 ≠ (c : Int)) ∨ ∃ p x l1 l2 m1 m2, Split R l m c p x l1 l2 m1 m2 := by
  induction h with
  | nil => left; exact ⟨rfl, fun p hp => absurd hp (by simp)⟩
  | @cons p q l m r t ih =>
    obtain ⟨nq, nd'⟩ := List.nodup_cons.mp nd
    have e := hR _ _ r
    by_cases z : q.1 = c
    · right
      obtain ⟨n, x⟩ := q
      have z' : n = c := z
      subst z'
      refine ⟨p, x, [], l, [], m, ⟨r, e, rfl, rfl, .nil, t, fun y hy => absurd hy (by simp), fun y hy z => nq (List.mem_map.mpr ⟨y, hy, z⟩), ?_, ?_⟩⟩
      · rw [List.find?_cons_of_pos]; simp
      · unfold encR valV
        rw [List.map_cons]
        simp [e]
    · have ez : ¬ p.1 = (c : Int) := by rw [e]; omega
      rcases ih nd' with ⟨h1, h2⟩ | ⟨p', x, l1, l2, m1, m2, s⟩
      · left
        refine ⟨?_, fun y hy => ?_⟩
        · rw [List.find?_cons_of_neg (by simpa using z)]; exact h1
        · rcases List.mem_cons.mp hy with e | e
          · rw [e]; exact ez
          · exact h2 y e
      · right
        refine ⟨p', x, p :: l1, l2, q :: m1, m2, ⟨s.r, s.num, by rw [s.el]; rfl, by rw [s.em]; rfl, .cons r s.p1, s.p2, fun y hy => ?_, s.n2, ?_, ?_⟩⟩
        · rcases List.mem_cons.mp hy with e | e
          · rw [e]; exact z
          · exact s.n1 y e
        · rw [List.find?_cons_of_neg (by simpa using z)]; exact s.fnd
        · have := s.val
          unfold encR valV at this ⊢
          rw [List.map_cons, List.find?_cons_of_neg]
          · exact this
          · intro y
            exact ez (Sum.inl.inj (of_decide_eq_true y))
theorem map_other {α : Type} {c : Nat} {k : α} : ∀ {m : List (Nat × α)}, (∀ y ∈ m, y.1 ≠ c) → m.map (fun x => if x.1 = c then (c, k) else x) = m
  | [], _ => rfl
  | a :: m, h => by
    rw [List.map_cons, map_other fun y hy => h y (List.mem_cons_of_mem _ hy), if_neg (h a List.mem_cons_self)]
theorem Split.set {α : Type} {R R' : Int × Addr → Nat × α → Prop} {l : List (Int × Addr)} {m : List (Nat × α)} {c : Nat} {p : Int × Addr} {x : α} {l1 l2 : List (Int × Addr)} {m1 m2 : List (Nat × α)} (s : Split R l m c p x l1 l2 m1 m2) {k : α}
    (ho : ∀ p q, R p q → q.1 ≠ c → R' p q) (hn : R' p (c, k)) : Paired R' l (m.map fun x => if x.1 = c then (c, k) else x) := by
  have go : ∀ {l : List (Int × Addr)} {m : List (Nat × α)}, Paired R l m → (∀ y ∈ m, y.1 ≠ c) → Paired R' l m := fun {l m} h => by
    induction h with
    | nil => intro _; exact .nil
    | cons r t ih => intro hn; exact .cons (ho _ _ r (hn _ List.mem_cons_self)) (ih fun y hy => hn y (List.mem_cons_of_mem _ hy))
  rw [s.el, s.em, List.map_append, List.map_cons, map_other s.n1, map_other s.n2, if_pos rfl]
  exact Paired.app (go s.p1 s.n1) (.cons hn (go s.p2 s.n2))
theorem ClAt.nm {L : Lb} {H : Hp} (p : Int × Addr) (q : Nat × Client) (h : ClAt Z L H p q) : p.1 = (q.1 : Int) := by obtain ⟨_, _, _, _, _, _, c⟩ := h; exact c.num
theorem PeAt.nm {L : Lb} {H : Hp} (p : Int × Addr) (q : Nat × Known) (h : PeAt Z L H p q) : p.1 = (q.1 : Int) := by obtain ⟨_, _, _, _, _, _, c⟩ := h; exact c.num
theorem neg_none {α : Type} {R : Int × Addr → Nat × α → Prop} (hR : ∀ p q, R p q → p.1 = (q.1 : Int)) {l : List (Int × Addr)} {m : List (Nat × α)} (h : Paired R l m) {c : Int} (hc : c < 0) : valV (encR l) (ik c) = none := by
  refine encR_none fun p hp z => ?_
  obtain ⟨y, _, hy⟩ := Paired.memL h hp
  have := hR _ _ hy
  omega
section
variable {L : Lb} {H H' : Hp} {net : Addr} {s : State} {A : Ads}
/-- a client has changed: its own things, nothing else -/
theorem StA.setCl (h : StA Z L H net s A) {c : Nat} {p : Int × Addr} {x x' : Client} {l1 l2 : List (Int × Addr)} {m1 m2 : List (Nat × Client)} (sp : Split (ClAt Z L H) A.lc s.clients c p x l1 l2 m1 m2) {dx wd idd : Addr} {lw li lw' li' : List (Int × Addr)} {bo bo' : V} (cp : ClP Z L H p (c, x) dx wd idd lw li bo)
    (fr : ∀ a o, H a = some o → a ≠ p.2 → a ≠ wd → a ≠ idd → H' a = some o) (h1 : H' p.2 = some (oClient Z dx (c : Int) (x'.body : Int) (Vbwsah.newest x'.ring : Int) wd ((x'.next : Int) - 1) idd bo')) (h2 : H' wd = some (.dK (encR lw'))) (r2 : RingR L H' lw' x'.ring) (h3 : H' idd = some (.dK (encR li'))) (r3 : InsR L H' li' x'.inputs) (rb : BoAt Z L H' bo' x'.clock) :
    StA Z L H' net (Vbwsah.setClient s c x') A ∧ Keep L OwnM H H' := by
  have kp : Keep L (fun y => y = .cl c ∨ y = .clW c ∨ y = .clI c) H H' := fun a o e n => by
    refine fr a o e (fun z => ?_) (fun z => ?_) (fun z => ?_)
    · exact n _ (by rw [z]; exact cp.l1) (.inl rfl)
    · exact n _ (by rw [z]; exact cp.l2) (.inr (.inl rfl))
    · exact n _ (by rw [z]; exact cp.l3) (.inr (.inr rfl))
  have ls := LSame.refl H L
  have no : ∀ {y : Lab}, (∀ c', y ≠ .cl c' ∧ y ≠ .clW c' ∧ y ≠ .clI c') → ¬ (y = .cl c ∨ y = .clW c ∨ y = .clI c) := fun {y} g z => by
    have := g c
    rcases z with z | z | z
    · exact this.1 z
    · exact this.2.1 z
    · exact this.2.2 z
  refine ⟨⟨h.l0, h.lw, h.lk, h.lc, h.lp, h.ll, kp.of h.h0 h.l0 (no (by simp)), kp.of h.hw h.lw (no (by simp)), h.rw, kp.of h.hk h.lk (no (by simp)), h.rk.keep kp ls, kp.of h.hc h.lc (no (by simp)), ?_, kp.of h.hp h.lp (no (by simp)), Paired.mapP h.rp fun p q c => c.keep kp ls (no (by simp)) (no (by simp)) (no (by simp)), kp.of h.hl h.ll (no (by simp)),
    Paired.mapP h.rl fun p q c => c.keep kp ls, fun a n z => ?_⟩, fun a o e n => kp a o e fun y hy hm => n y hy (by intro z; rw [z] at hm; simp at hm)⟩
  · refine sp.set (fun p q r nq => r.keep kp ls ?_ ?_ ?_) ⟨dx, wd, idd, lw', li', bo', sp.num, cp.l1, cp.l2, cp.l3, h1, h2, r2, h3, r3, rb⟩
    · simp [nq]
    · simp [nq]
    · simp [nq]
  · cases q : H a with
    | none => exact h.lin a n q
    | some o =>
      by_cases z1 : a = p.2
      · rw [z1, h1] at z; cases z
      by_cases z2 : a = wd
      · rw [z2, h2] at z; cases z
      by_cases z3 : a = idd
      · rw [z3, h3] at z; cases z
      rw [fr a o q z1 z2 z3] at z; cases z
/-- the server's side of a client has changed -/
theorem StA.setPe (h : StA Z L H net s A) {c : Nat} {p : Int × Addr} {x x' : Known} {l1 l2 : List (Int × Addr)} {m1 m2 : List (Nat × Known)} (sp : Split (PeAt Z L H) A.lp s.known c p x l1 l2 m1 m2) {dx sd wtd : Addr} {lss lw ls' lw' : List (Int × Addr)} {m m' : List Numbered} (cp : PeP Z L H p (c, x) dx sd wtd lss lw m)
    (fr : ∀ a o, H a = some o → a ≠ p.2 → a ≠ sd → a ≠ wtd → H' a = some o) (h1 : H' p.2 = some (oPeer Z dx (c : Int) (x'.body : Int) (x'.ack : Int) sd wtd)) (h2 : H' sd = some (.dK (encR ls'))) (r2 : RingR L H' ls' x'.sent) (h3 : H' wtd = some (.dK (encR lw'))) (r3 : InsR L H' lw' m') (pm : m'.Perm x'.inputs) :
    StA Z L H' net (Vbwsah.setKnown s c x') A ∧ Keep L OwnM H H' := by
  have kp : Keep L (fun y => y = .pe c ∨ y = .peS c ∨ y = .peW c) H H' := fun a o e n => by
    refine fr a o e (fun z => ?_) (fun z => ?_) (fun z => ?_)
    · exact n _ (by rw [z]; exact cp.l1) (.inl rfl)
    · exact n _ (by rw [z]; exact cp.l2) (.inr (.inl rfl))
    · exact n _ (by rw [z]; exact cp.l3) (.inr (.inr rfl))
  have ls := LSame.refl H L
  have no : ∀ {y : Lab}, (∀ c', y ≠ .pe c' ∧ y ≠ .peS c' ∧ y ≠ .peW c') → ¬ (y = .pe c ∨ y = .peS c ∨ y = .peW c) := fun {y} g z => by
    have := g c
    rcases z with z | z | z
    · exact this.1 z
    · exact this.2.1 z
    · exact this.2.2 z
  refine ⟨⟨h.l0, h.lw, h.lk, h.lc, h.lp, h.ll, kp.of h.h0 h.l0 (no (by simp)), kp.of h.hw h.lw (no (by simp)), h.rw, kp.of h.hk h.lk (no (by simp)), h.rk.keep kp ls, kp.of h.hc h.lc (no (by simp)), Paired.mapP h.rc fun p q c => c.keep kp ls (no (by simp)) (no (by simp)) (no (by simp)), kp.of h.hp h.lp (no (by simp)), ?_, kp.of h.hl h.ll (no (by simp)),
    Paired.mapP h.rl fun p q c => c.keep kp ls, fun a n z => ?_⟩, fun a o e n => kp a o e fun y hy hm => n y hy (by intro z; rw [z] at hm; simp at hm)⟩
  · refine sp.set (fun p q r nq => r.keep kp ls ?_ ?_ ?_) ⟨dx, sd, wtd, ls', lw', m', sp.num, cp.l1, cp.l2, cp.l3, h1, h2, r2, h3, r3, pm⟩
    · simp [nq]
    · simp [nq]
    · simp [nq]
  · cases q : H a with
    | none => exact h.lin a n q
    | some o =>
      by_cases z1 : a = p.2
      · rw [z1, h1] at z; cases z
      by_cases z2 : a = sd
      · rw [z2, h2] at z; cases z
      by_cases z3 : a = wtd
      · rw [z3, h3] at z; cases z
      rw [fr a o q z1 z2 z3] at z; cases z
/-- a packet more -/
theorem StA.addPk (h : StA Z L H net s A) {a : Addr} {p : Packet} (hp : PkAt Z L H a p) : StA Z L (upd H A.pl (.lst ((A.pk ++ [a]).map V.ref))) net { s with packets := s.packets ++ [p] } { A with pk := A.pk ++ [a] } ∧ Keep L OwnM H (upd H A.pl (.lst ((A.pk ++ [a]).map V.ref))) := by
  have kp : Keep L (fun x => x = .packets) H (upd H A.pl (.lst ((A.pk ++ [a]).map V.ref))) := fun b o e n => by
    by_cases z : b = A.pl
    · rw [z] at n; exact absurd rfl (n _ h.ll)
    · rw [upd_ne z]; exact e
  have ls := LSame.refl H L
  refine ⟨⟨h.l0, h.lw, h.lk, h.lc, h.lp, h.ll, kp.of h.h0 h.l0 (by decide), kp.of h.hw h.lw (by decide), h.rw, kp.of h.hk h.lk (by decide), h.rk.keep kp ls, kp.of h.hc h.lc (by decide), Paired.mapP h.rc fun p q c => c.keep kp ls (by simp) (by simp) (by simp), kp.of h.hp h.lp (by decide), Paired.mapP h.rp fun p q c => c.keep kp ls (by simp) (by simp) (by simp), upd_same,
    Paired.snoc (Paired.mapP h.rl fun p q c => c.keep kp ls) (hp.keep kp ls), fun a n z => ?_⟩, fun a o e n => kp a o e fun y hy hm => n y hy (by intro z; rw [z] at hm; simp at hm)⟩
  by_cases e : a = A.pl
  · rw [e, upd_same] at z; cases z
  · rw [upd_ne e] at z; exact h.lin a n z
end
end MN
set_option Elab.async false
set_option maxRecDepth 100000
set_option maxHeartbeats 2000000
set_option linter.unusedVariables false
namespace MN
open PySem PySem.Spec PyProof.Rows L2
open Vbwsah (Input Numbered Known Client State Packet Ring)
variable {P : Program} {w : World} {K : PySem.W.Frag} {mg : Str → Option Value} {base : Heap} {Z : Cs}
theorem StA.still {L : Lb} {H H1 : Hp} {net : Addr} {s : State} {A : Ads} (h1 : StA Z L H1 net s A) (k : Keep L OwnM H H1) {p : Addr} (hp : H1 p = none) : H p = none := by
  cases e : H p with
  | none => rfl
  | some o =>
    cases l : L p with
    | none => rw [k.un e l] at hp; cases hp
    | some y => exact absurd hp (h1.lin p (by rw [l]; simp))
/-- the answer is a new list, behind a change -/
theorem Wants.done {c : Vbwsah.Call} {L : Lb} {H : Hp} {net : Addr} {s s' : State} {A : Ads} {Q : VK} (q : Wants Z c L H net s Q) {xs : List Int} (e : Vbwsah.step s c = (s', xs)) {H1 : Hp} (h1 : StA Z L H1 net s' A) (k : Keep L OwnM H H1) {p : Addr} (hp : H1 p = none) : Q (.ref p) (upd H1 p (.lst (xs.map V.int))) := by
  refine q _ L p ?_ (fun a o e n => ?_) (LSame.refl H L) (h1.still k hp) ?_
  · rw [e]; exact ⟨A, h1.same (Same.new hp)⟩
  · have := k a o e n
    rw [upd_ne (ne_of_none this hp)]; exact this
  · rw [upd_same, e]
theorem StA.onCl {L : Lb} {H : Hp} {net : Addr} {s : State} {A : Ads} {n : Nat} {hist : Nat → Vbwsah.World} (h : StA Z L H net s A) (iv : HInv n s hist) (c : Int) :
    ((∀ f, Vbwsah.onClient s c f = (s, [-1])) ∧ valV (encR A.lc) (ik c) = none ∧ valV (encR A.lp) (ik c) = none) ∨ ∃ (k : Nat) (p p' : Int × Addr) (x : Client) (x' : Known) (l1 l2 l1' l2' : List (Int × Addr)) (m1 m2 : List (Nat × Client)) (m1' m2' : List (Nat × Known)), c = (k : Int) ∧
      Split (ClAt Z L H) A.lc s.clients k p x l1 l2 m1 m2 ∧ Split (PeAt Z L H) A.lp s.known k p' x' l1' l2' m1' m2' ∧ ∀ f, Vbwsah.onClient s c f = f x x' := by
  by_cases c0 : c < 0
  · left
    refine ⟨fun f => ?_, neg_none ClAt.nm h.rc c0, neg_none PeAt.nm h.rp c0⟩
    unfold Vbwsah.onClient
    rw [if_pos c0]; rfl
  · have ec : c = (c.toNat : Int) := by omega
    rcases rows_split ClAt.nm h.rc iv.numsC c.toNat with ⟨f1, n1⟩ | ⟨p, x, l1, l2, m1, m2, s1⟩
    · left
      have nk : ∀ p ∈ A.lp, p.1 ≠ (c.toNat : Int) := fun p hp z => by
        obtain ⟨y, hy, r⟩ := Paired.memL h.rp hp
        have e1 := PeAt.nm _ _ r
        have : y.1 ∈ s.clients.map (·.1) := by rw [iv.fst]; exact List.mem_map.mpr ⟨y, hy, rfl⟩
        obtain ⟨q, hq, eq⟩ := List.mem_map.mp this
        obtain ⟨a, ha, ra⟩ := Paired.memR h.rc hq
        have e2 := ClAt.nm _ _ ra
        exact n1 a ha (by omega)
      refine ⟨fun f => ?_, ?_, ?_⟩
      · unfold Vbwsah.onClient Vbwsah.clientAt
        rw [if_neg c0, f1]; rfl
      · rw [ec]; exact encR_none n1
      · rw [ec]; exact encR_none nk
    · right
      rcases rows_split PeAt.nm h.rp iv.nums c.toNat with ⟨f2, n2⟩ | ⟨p', x', l1', l2', m1', m2', s2⟩
      · exfalso
        have : c.toNat ∈ s.known.map (·.1) := by
          rw [← iv.fst, s1.em]; simp
        obtain ⟨q, hq, eq⟩ := List.mem_map.mp this
        have := List.find?_eq_none.mp f2 q hq
        simp [eq] at this
      · refine ⟨c.toNat, p, p', x, x', l1, l2, l1', l2', m1, m2, m1', m2', ec, s1, s2, fun f => ?_⟩
        unfold Vbwsah.onClient Vbwsah.clientAt Vbwsah.knownAt
        rw [if_neg c0, s1.fnd, s2.fnd]; rfl
theorem Split.mem {α : Type} {R : Int × Addr → Nat × α → Prop} {l : List (Int × Addr)} {m : List (Nat × α)} {c : Nat} {p : Int × Addr} {x : α} {l1 l2 : List (Int × Addr)} {m1 m2 : List (Nat × α)} (s : Split R l m c p x l1 l2 m1 m2) : (c, x) ∈ m := by rw [s.em]; simp
theorem encR_len (l : List (Int × Addr)) : (encR l).length = l.length := by unfold encR; rw [List.length_map]
section
variable {σ : L2.St} {H : Hp} {ta tb : TE}
/-- d[k] -/
theorem val_dget {a : Addr} {kvs : List (Key × V)} {i : Int} {v : V} (h1 : Val ta σ H (.ref a)) (h2 : Val tb σ H (.int i)) (ha : H a = some (.dK kvs)) (hv : valV kvs (ik i) = some v) : Val (tDGet ta tb) σ H v := fun Q q => h1 _ (h2 _ ⟨a, v, rfl, hv ▸ DGet.k (k := ik i) ha, q⟩)
theorem val_pfull {na dx wa kd cd pd pl : Addr} {t dr : Int} {xs : List V} {te : TE} (h : Val te σ H (.ref na)) (hn : H na = some (oNet Z dx wa t kd cd pd pl dr)) (hl : H pl = some (.lst xs)) : Val (tMeth Z.Net "packets_full" (spPacketsFull Z) [] E0 te tNil) σ H (.bl (decide (200 ≤ xs.length))) := fun Q q =>
  h _ ⟨na, dx, _, rfl, hn, rfl, na, dx, wa, kd, cd, pd, pl, t, dr, xs, rfl, hn, hl, q⟩
theorem val_cfull {ca dx wd idd : Addr} {bo : V} {n b lt im : Int} {kvs : List (Key × V)} {te : TE} (h : Val te σ H (.ref ca)) (hc : H ca = some (oClient Z dx n b lt wd im idd bo)) (hi : H idd = some (.dK kvs)) : Val (tMeth Z.Client "is_full" (spIsFull Z) [] E0 te tNil) σ H (.bl (decide (64 ≤ kvs.length))) := fun Q q =>
  h _ ⟨ca, dx, _, rfl, hc, rfl, ca, dx, wd, idd, bo, n, b, lt, im, kvs, rfl, hc, hi, q⟩
end
theorem ok_add_input (T : Txt K mg Z) : DefOk P w K mg base 3 "add_input" ["net", "number", "ax", "ay"] (fun vs H Q E => ∃ c ax ay : Int, spCall Z (.input c ax ay) [.int c, .int ax, .int ay] vs H Q E) := by
  refine T.f_add_input.ok sc_add_input (fun vs H Q E h => ?_) (fun f cdv A outer s H vs Q E hr h => ⟨_, (pss_cons (ps_if (pt_cmp (pc_dnotin (hu_of hr) (pv 1) (pe_fld (pv 0) rfl))) (pss_one (ps_ret (pe_lst (pa_cons (pe_gc T.c_NO_SUCH) pa_nil)))) pss_nil)
      (pss_cons (ps_if (pt_not (PW.pt (pw_and (pt_val (pe_def (ok_is_push T) hr (pa_cons (pv 2) pa_nil))) (pw_and1 (pt_val (pe_def (ok_is_push T) hr (pa_cons (pv 3) pa_nil))))))) (pss_one (ps_ret (pe_lst (pa_cons (pe_gc T.c_OUT_OF_RANGE) pa_nil)))) pss_nil)
      (pss_cons (ps_set (i := 4) sc_add_input.nd rfl (Or.inl rfl) (pe_dget (hu_of hr) (pe_fld (pv 0) rfl) (pv 1) (fun _ _ => rfl)))
      (pss_cons (ps_if (pt_val (pe_m0 (ok_Client_is_full T) T.cl_Client hr (pv 4))) (pss_one (ps_ret (pe_lst (pa_cons (pe_gc T.c_FULL) pa_nil)))) pss_nil)
      (pss_one (ps_ret (pe_lst (pa_cons pe_int (pa_cons (pe_m (ok_Client_make_input T) T.cl_Client hr (pv 4) (pa_cons (pv 2) (pa_cons (pv 3) pa_nil))) pa_nil))))))))), ?_⟩)
  · obtain ⟨c, ax, ay, L, net, s, n, hist, rfl, _⟩ := h; rfl
  · obtain ⟨c, ax, ay, L, net, st, n, hist, rfl, ⟨A, sa⟩, iv, hn, q⟩ := h
    have q : Wants Z (.input c ax ay) L H net st Q := q
    have h0 := sa.h0
    rcases sa.onCl iv c with ⟨no, e1, e2⟩ | ⟨k, p, p', x, x', l1, l2, l1', l2', m1, m2, m1', m2', rfl, s1, s2, on⟩
    · refine st_seq (st_y (val_dnotin (val_var rfl) (val_net (f := "clients") (val_var rfl) h0 T T.na_Net_clients lk_Net_clients) sa.hc) (by rw [e1]; rfl) ?_)
      refine st_retL (fun Q q => q) (by decide) fun p hp => q.same sa (xs := [-1]) ?_ (Same.refl H) hp
      rw [Vbwsah.step, no]
    refine st_seq (st_n (val_dnotin (val_var rfl) (val_net (f := "clients") (val_var rfl) h0 T T.na_Net_clients lk_Net_clients) sa.hc) (by rw [s1.val]; rfl) ?_)
    obtain ⟨dx, wd, idd, lw, li, bo, cp⟩ := s1.r
    obtain ⟨all, recv, per⟩ := iv.per _ _ _ s2.mem s1.mem
    have hli : li.length = x.inputs.length := Paired.len cp.r3
    have hin := per.xlen
    have est : Vbwsah.step st (.input (k : Int) ax ay) = if (inR (-3) 3 ax && inR (-3) 3 ay) = true then (if 64 ≤ x.inputs.length then (st, [-4]) else (Vbwsah.setClient st k { x with inputs := x.inputs ++ [(x.next, ⟨ax, ay⟩)], next := x.next + 1 }, [0, (x.next : Int)])) else (st, [-2]) := by
      rw [Vbwsah.step, on, ← inR_inside, ← inR_inside]
      generalize inR (-3) 3 ax = B1
      generalize inR (-3) 3 ay = B2
      cases B1 <;> cases B2 <;> rfl
    by_cases c1 : (inR (-3) 3 ax && inR (-3) 3 ay) = true
    · rw [if_pos c1] at est
      refine st_seq (st_n (ans_not (ans_and2 (ans_val (val_B1 (val_var rfl))) (ans_val (val_B1 (val_var rfl))))) (by rw [c1]; rfl) ?_)
      refine st_seq (st_set (val_dget (val_net (f := "clients") (val_var rfl) h0 T T.na_Net_clients lk_Net_clients) (val_var rfl) sa.hc s1.val) ?_)
      by_cases c2 : 64 ≤ x.inputs.length
      · rw [if_pos c2] at est
        refine st_seq (st_y (ans_val (val_cfull (val_var rfl) cp.h1 cp.h3)) (decide_eq_true (by rw [encR_len]; omega)) ?_)
        exact st_retL (fun Q q => q) (by decide) fun p hp => q.same sa (xs := [-4]) est (Same.refl H) hp
      · rw [if_neg c2] at est
        refine st_seq (st_n (ans_val (val_cfull (val_var rfl) cp.h1 cp.h3)) (decide_eq_false (by rw [encR_len]; omega)) ?_)
        refine ⟨_, rfl, p.2, dx, _, rfl, cp.h1, rfl, _, rfl, _, rfl, p.2, dx, wd, idd, _, _, _, _, _, ax, ay, encR li, rfl, cp.h1, cp.h3, by rw [encR_len]; omega, fun t ht => ?_⟩
        refine ⟨(by show 2 ≤ sizeLine; decide), fun r hr => ?_⟩
        have nn : ((k, x).2.next : Int) - 1 + 1 = (x.next : Int) := by show (x.next : Int) - 1 + 1 = _; omega
        rw [nn] at hr ⊢
        have tp : t ≠ p.2 := ne_of_none' cp.h1 ht
        have tid : t ≠ idd := ne_of_none' cp.h3 ht
        have twd : t ≠ wd := ne_of_none' cp.h2 ht
        have pid : p.2 ≠ idd := ne_of cp.h1 cp.h3 (fun z => nomatch z)
        have pwd : p.2 ≠ wd := ne_of cp.h1 cp.h2 (fun z => nomatch z)
        have wid : wd ≠ idd := lab_ne cp.l2 cp.l3 (by simp)
        have tl : L t = none := sa.fresh ht
        have fr : ∀ a o, H a = some o → a ≠ p.2 → a ≠ wd → a ≠ idd → upd (upd (upd H p.2 (oClient Z dx (k : Int) (x.body : Int) (Vbwsah.newest x.ring : Int) wd (x.next : Int) idd bo)) t (.tup [.int ax, .int ay])) idd (.dK (putK (encR li) (ik (x.next : Int)) (.ref t))) a = some o := fun a o e z1 z2 z3 => by
          rw [upd_ne z3, upd_ne (ne_of_none e ht), upd_ne z1]; exact e
        have kp : Keep L OwnM H (upd (upd (upd H p.2 (oClient Z dx (k : Int) (x.body : Int) (Vbwsah.newest x.ring : Int) wd (x.next : Int) idd bo)) t (.tup [.int ax, .int ay])) idd (.dK (putK (encR li) (ik (x.next : Int)) (.ref t)))) := fun a o e n => by
          refine fr a o e (fun z => ?_) (fun z => ?_) (fun z => ?_)
          · exact n _ (by rw [z]; exact cp.l1) (by nofun)
          · exact n _ (by rw [z]; exact cp.l2) (by nofun)
          · exact n _ (by rw [z]; exact cp.l3) (by nofun)
        have hlt : ∀ y ∈ li, y.1 < (x.next : Int) := fun y hy => by
          obtain ⟨i, hi, r⟩ := Paired.memL cp.r3 hy
          have := per.xinB i hi
          have := r.1
          omega
        have ep : putK (encR li) (ik (x.next : Int)) (.ref t) = encR (li ++ [((x.next : Int), t)]) := putK_encR hlt
        refine (fun (z : StA Z L _ net _ A ∧ Keep L OwnM H _) => q.done est z.1 z.2 hr) (sa.setCl s1 (x' := { x with inputs := x.inputs ++ [(x.next, ⟨ax, ay⟩)], next := x.next + 1 }) cp (lw' := lw) (li' := li ++ [((x.next : Int), t)]) fr ?_ ?_ (cp.r2.keep kp (LSame.refl H L)) ?_ ?_ (cp.rb.keep kp (LSame.refl H L)))
        · rw [upd_ne pid, upd_ne (Ne.symm tp), upd_same]
          show some (oClient Z dx _ _ _ wd (x.next : Int) idd bo) = some (oClient Z dx _ _ _ wd (((x.next + 1 : Nat) : Int) - 1) idd bo)
          rw [show (((x.next + 1 : Nat) : Int) - 1) = (x.next : Int) by omega]
        · rw [upd_ne wid, upd_ne (Ne.symm twd), upd_ne (Ne.symm pwd)]; exact cp.h2
        · rw [upd_same, ep]
        · refine Paired.snoc (cp.r3.keep kp (LSame.refl H L)) ⟨rfl, tl, ?_⟩
          rw [upd_ne tid, upd_same]; rfl
    · have c1 : (inR (-3) 3 ax && inR (-3) 3 ay) = false := by simpa using c1
      rw [if_neg (by rw [c1]; decide)] at est
      refine st_seq (st_y (ans_not (ans_and2 (ans_val (val_B1 (val_var rfl))) (ans_val (val_B1 (val_var rfl))))) (by rw [c1]; rfl) ?_)
      exact st_retL (fun Q q => q) (by decide) fun p hp => q.same sa (xs := [-2]) est (Same.refl H) hp
end MN
set_option Elab.async false
set_option maxRecDepth 100000
set_option maxHeartbeats 2000000
set_option linter.unusedVariables false
namespace MN
open PySem PySem.Spec PyProof.Rows L2
open Vbwsah (Input Numbered Known Client State Packet Ring)
variable {P : Program} {w : World} {K : PySem.W.Frag} {mg : Str → Option Value} {base : Heap} {Z : Cs}
theorem ok_send_up (T : Txt K mg Z) : DefOk P w K mg base 5 "send_up" ["net", "number"] (fun vs H Q E => ∃ c : Int, spCall Z (.up c) [.int c] vs H Q E) := by
  refine T.f_send_up.ok sc_send_up (fun vs H Q E h => ?_) (fun f cdv A outer s H vs Q E hr h => ⟨_, (pss_cons (ps_if (pt_cmp (pc_dnotin (hu_of hr) (pv 1) (pe_fld (pv 0) rfl))) (pss_one (ps_ret (pe_lst (pa_cons (pe_gc T.c_NO_SUCH) pa_nil)))) pss_nil)
      (pss_cons (ps_if (pt_val (pe_m0 (ok_Net_packets_full T) T.cl_Net hr (pv 0))) (pss_one (ps_ret (pe_lst (pa_cons (pe_gc T.c_FULL) pa_nil)))) pss_nil)
      (pss_cons (ps_set (i := 2) sc_send_up.nd rfl (Or.inl rfl) (pe_m0 (ok_Client_make_up T) T.cl_Client hr (pe_dget (hu_of hr) (pe_fld (pv 0) rfl) (pv 1) (fun _ _ => rfl))))
      (pss_one (ps_ret (pe_lst (pa_cons pe_int (pa_cons (pe_m (ok_Net_add_packet T) T.cl_Net hr (pv 0) (pa_cons (pv 2) pa_nil)) (pa_cons (pe_fld (pv 2) rfl) (pa_cons (pe_callB call_lenD (by rfl) T.n_len (by decide +kernel) (pa_cons (pe_fld (pv 2) rfl) pa_nil)) pa_nil)))))))))), ?_⟩)
  · obtain ⟨c, L, net, s, n, hist, rfl, _⟩ := h; rfl
  · obtain ⟨c, L, net, st, n, hist, rfl, ⟨A, sa⟩, iv, hn, q⟩ := h
    have q : Wants Z (.up c) L H net st Q := q
    have h0 := sa.h0
    rcases sa.onCl iv c with ⟨no, e1, e2⟩ | ⟨k, p, p', x, x', l1, l2, l1', l2', m1, m2, m1', m2', rfl, s1, s2, on⟩
    · refine st_seq (st_y (val_dnotin (val_var rfl) (val_net (f := "clients") (val_var rfl) h0 T T.na_Net_clients lk_Net_clients) sa.hc) (by rw [e1]; rfl) ?_)
      refine st_retL (fun Q q => q) (by decide) fun p hp => q.same sa (xs := [-1]) ?_ (Same.refl H) hp
      rw [Vbwsah.step, no]
    refine st_seq (st_n (val_dnotin (val_var rfl) (val_net (f := "clients") (val_var rfl) h0 T T.na_Net_clients lk_Net_clients) sa.hc) (by rw [s1.val]; rfl) ?_)
    obtain ⟨dx, wd, idd, lw, li, bo, cp⟩ := s1.r
    obtain ⟨all, recv, per⟩ := iv.per _ _ _ s2.mem s1.mem
    have hli : li.length = x.inputs.length := Paired.len cp.r3
    have hpk : A.pk.length = st.packets.length := Paired.len sa.rl
    have hpl : (A.pk.map V.ref).length = st.packets.length := by rw [List.length_map]; exact hpk
    by_cases c2 : Vbwsah.PACKETS ≤ st.packets.length
    · refine st_seq (st_y (ans_val (val_pfull (val_var rfl) h0 sa.hl)) (decide_eq_true (by rw [hpl]; exact c2)) ?_)
      refine st_retL (fun Q q => q) (by decide) fun p hp => q.same sa (xs := [-4]) ?_ (Same.refl H) hp
      rw [Vbwsah.step, on, if_pos c2]; rfl
    · refine st_seq (st_n (ans_val (val_pfull (val_var rfl) h0 sa.hl)) (decide_eq_false (by rw [hpl]; exact c2)) ?_)
      refine ⟨_, rfl, net, Z.Net, A.dx, _, _, rfl, h0, T.cl_Net, T.na_Net_clients, lk_Net_clients, _, rfl, A.cd, .ref p.2, rfl, s1.val ▸ DGet.k (k := ik (k : Int)) sa.hc, p.2, dx, _, rfl, cp.h1, rfl, p.2, dx, wd, idd, _, _, _, _, _, encR li, rfl, cp.h1, cp.h3, fun H' u du ud sm hu hud hu' hud' => ?_⟩
      have sa' := sa.same sm
      refine ⟨_, rfl, net, A.dx, _, rfl, sa'.h0, rfl, _, rfl, net, A.dx, A.wa, A.kd, A.cd, A.pd, A.pl, _, _, _, .ref u, rfl, sa'.h0, sa'.hl, by rw [hpl]; have := iv.pk; omega, ?_⟩
      have npu : u ≠ A.pl := ne_of_none' sa.hl hu
      have npd : ud ≠ A.pl := ne_of_none' sa.hl hud
      refine ⟨_, rfl, u, Z.Up, du, _, _, rfl, by rw [upd_ne npu]; exact hu', T.cl_Up, T.na_Up_tick, lk_Up_tick, _, rfl, u, Z.Up, du, _, _, rfl, by rw [upd_ne npu]; exact hu', T.cl_Up, T.na_Up_inputs, lk_Up_inputs, ud, encR li, rfl, by rw [upd_ne npd]; exact hud', ?_⟩
      refine ⟨(by show 4 ≤ sizeLine; decide), fun r hr => ?_⟩
      have pk : PkAt Z L H' u (.up k (Vbwsah.newest x.ring) x.inputs) := ⟨sa.fresh hu, du, ud, li, hu', sa.fresh hud, hud', cp.r3.keep (Same.keep (M := OwnM) sm) (LSame.refl H L)⟩
      obtain ⟨sb, kb⟩ := sa'.addPk pk
      have el : ∀ o : List V, (A.pk.map V.ref ++ [V.ref u]) = (A.pk ++ [u]).map V.ref := fun o => by rw [List.map_append]; rfl
      rw [el []] at hr ⊢
      have kk : Keep L OwnM H (upd H' A.pl (.lst ((A.pk ++ [u]).map V.ref))) := fun a o e n => kb a o (sm a o e) n
      have := q.done (xs := [0, (st.packets.length : Int), (Vbwsah.newest x.ring : Int), (x.inputs.length : Int)]) (s' := { st with packets := st.packets ++ [.up k (Vbwsah.newest x.ring) x.inputs] }) (by rw [Vbwsah.step, on, if_neg c2]; rfl) sb kk hr
      rw [hpl, encR_len, hli]
      exact this
end MN
set_option Elab.async false
set_option maxRecDepth 100000
set_option maxHeartbeats 2000000
set_option linter.unusedVariables false
namespace MN
open PySem PySem.Spec PyProof.Rows L2
open Vbwsah (Input Numbered Known Client State Packet Ring)
variable {P : Program} {w : World} {K : PySem.W.Frag} {mg : Str → Option Value} {base : Heap} {Z : Cs}
section
variable {L : Lb} {H : Hp} {l : List (Int × Addr)} {r : Ring}
theorem RingR.len (h : RingR L H l r) : l.length = r.length := by
  have := Paired.len h
  rwa [List.length_reverse] at this
theorem RingR.nums (h : RingR L H l r) : l.map (·.1) = (r.map fun q => (q.1 : Int)).reverse := by
  have go : ∀ {l : List (Int × Addr)} {m : List (Nat × Vbwsah.World)}, Paired (fun p (q : Nat × Vbwsah.World) => p.1 = (q.1 : Int) ∧ L p.2 = none ∧ WAt H p.2 q.2) l m → l.map (·.1) = m.map fun q => (q.1 : Int) := fun {l m} h => by
    induction h with
    | nil => rfl
    | cons a t ih => rw [List.map_cons, List.map_cons, ih, a.1]
  rw [go h, List.map_reverse]
theorem RingR.sorted (h : RingR L H l r) (hd : (r.map (·.1)).Pairwise (· > ·)) : (l.map (·.1)).Pairwise (· < ·) := by
  rw [h.nums, List.pairwise_reverse, List.pairwise_map]
  rw [List.pairwise_map] at hd
  exact hd.imp fun {x y} z => by omega
theorem RingR.get (h : RingR L H l r) (hd : (r.map (·.1)).Pairwise (· > ·)) {t : Nat} {v : Vbwsah.World} (hm : (t, v) ∈ r) : ∃ a, ((t : Int), a) ∈ l ∧ L a = none ∧ WAt H a v ∧ valV (encR l) (ik (t : Int)) = some (.ref a) := by
  obtain ⟨p, hp, e, l0, wt⟩ := Paired.memR h (List.mem_reverse.mpr hm)
  obtain ⟨n, a⟩ := p
  have e' : n = (t : Int) := e
  subst e'
  refine ⟨a, hp, l0, wt, encR_val (p := ((t : Int), a)) ?_ hp⟩
  exact (h.sorted hd).imp fun {x y} (z : x < y) => by omega
theorem RingR.no (h : RingR L H l r) {t : Nat} (hn : ∀ q ∈ r, q.1 ≠ t) : ∀ p ∈ l, p.1 ≠ (t : Int) := fun p hp z => by
  obtain ⟨q, hq, e, _⟩ := Paired.memL h hp
  exact hn q (List.mem_reverse.mp hq) (by omega)
theorem RingR.lt (h : RingR L H l r) {t : Nat} (hn : ∀ q ∈ r, q.1 < t) : ∀ p ∈ l, p.1 < (t : Int) := fun p hp => by
  obtain ⟨q, hq, e, _⟩ := Paired.memL h hp
  have := hn q (List.mem_reverse.mp hq)
  omega
/-- a world more, so many kept -/
theorem RingR.more (h : RingR L H l r) {m : Nat} (hm : 0 < m) (hl : r.length ≤ m) {t : Nat} {a : Addr} {v : Vbwsah.World} (l0 : L a = none) (wt : WAt H a v) : RingR L H (keepR m (l ++ [((t : Int), a)])) (((t, v) :: r).take m) := by
  have el := h.len
  unfold keepR
  rw [List.length_append]
  by_cases c : r.length < m
  · rw [if_neg (by simp; omega), List.take_of_length_le (by rw [List.length_cons]; omega)]
    unfold RingR
    rw [List.reverse_cons]
    exact Paired.snoc h ⟨rfl, l0, wt⟩
  · have c : r.length = m := by omega
    rw [if_pos (by simp; omega)]
    cases l with
    | nil => simp at el; omega
    | cons f l' =>
      obtain ⟨m', rfl⟩ : ∃ m', m = m' + 1 := ⟨m - 1, by omega⟩
      rw [List.take_succ_cons]
      show RingR L H (l' ++ [((t : Int), a)]) _
      unfold RingR
      rw [List.reverse_cons]
      refine Paired.snoc ?_ ⟨rfl, l0, wt⟩
      have e : r.reverse = (r.drop m').reverse ++ (r.take m').reverse := by rw [← List.reverse_append, List.take_append_drop]
      unfold RingR at h
      rw [e] at h
      have hd : (r.drop m').length = 1 := by rw [List.length_drop]; omega
      obtain ⟨z, ez⟩ := List.length_eq_one_iff.mp hd
      rw [ez] at h
      cases h with
      | cons _ t => exact t
end
theorem desc_take16 {all : List Nat} (h : all.Pairwise (· > ·)) {hist : Nat → Vbwsah.World} : (((all.take 16).map fun t => (t, hist t)).map (·.1)).Pairwise (· > ·) := by
  rw [List.map_map]
  have e : (all.take 16).map ((fun x : Nat × Vbwsah.World => x.1) ∘ fun t => (t, hist t)) = all.take 16 := by
    rw [show ((fun x : Nat × Vbwsah.World => x.1) ∘ fun t => (t, hist t)) = id from rfl, List.map_id]
  rw [e]
  exact h.sublist (List.take_sublist _ _)
theorem past_desc {n : Nat} {s : State} {hist : Nat → Vbwsah.World} (iv : HInv n s hist) : (s.past.map (·.1)).Pairwise (· > ·) := by
  rw [iv.past, List.map_map, List.pairwise_map]
  have h := List.pairwise_lt_range (n := min s.tick 64)
  refine List.Pairwise.imp_of_mem (fun {x y} hx hy z => ?_) h
  have h1 := List.mem_range.mp hx
  have h2 := List.mem_range.mp hy
  show s.tick - x > s.tick - y
  omega
theorem past_mem {n : Nat} {s : State} {hist : Nat → Vbwsah.World} (iv : HInv n s hist) (ht : s.tick ≠ 0) : (s.tick, hist s.tick) ∈ s.past := by
  rw [iv.past]
  exact List.mem_map.mpr ⟨0, List.mem_range.mpr (by omega), rfl⟩
theorem putK_last {l : List (Int × Addr)} {t : Int} {a b : Addr} (h : ∀ p ∈ l, p.1 < t) : putK (encR (l ++ [(t, a)])) (ik t) (.ref b) = encR (l ++ [(t, b)]) := by
  unfold putK encR
  rw [if_pos]
  · rw [List.map_append, List.map_append, List.map_append, List.map_map]
    congr 1
    · refine List.map_congr_left fun p hp => ?_
      have ne : ¬ ik p.1 = ik t := fun z => by
        have := Sum.inl.inj z
        have := h p hp
        omega
      show (if ik p.1 = ik t then _ else _) = _
      rw [if_neg ne]
    · simp
  · rw [List.any_eq_true]
    exact ⟨(ik t, .ref a), by simp, by simp⟩
theorem last_is {r : Ring} {t : Nat} {v : Vbwsah.World} {L : Lb} {H : Hp} {l : List (Int × Addr)} (h : RingR L H l ((t, v) :: r)) : ∃ l' a, l = l' ++ [((t : Int), a)] ∧ RingR L H l' r := by
  unfold RingR at h
  rw [List.reverse_cons] at h
  have go : ∀ {l : List (Int × Addr)} {m : List (Nat × Vbwsah.World)} {z : Nat × Vbwsah.World}, Paired (fun p (q : Nat × Vbwsah.World) => p.1 = (q.1 : Int) ∧ L p.2 = none ∧ WAt H p.2 q.2) l (m ++ [z]) → ∃ l' a, l = l' ++ [((z.1 : Int), a)] ∧ Paired (fun p (q : Nat × Vbwsah.World) => p.1 = (q.1 : Int) ∧ L p.2 = none ∧ WAt H p.2 q.2) l' m := fun {l m z} => by
    induction m generalizing l with
    | nil =>
      intro h
      cases h with
      | @cons p _ _ _ r t =>
        cases t
        exact ⟨[], p.2, by rw [← r.1]; rfl, .nil⟩
    | cons y m ih =>
      intro h
      cases h with
      | @cons p _ _ _ r t =>
        obtain ⟨l', a, e, hh⟩ := ih t
        exact ⟨p :: l', a, by rw [e]; rfl, .cons r hh⟩
  exact go h
/-- what is sent is new, or the last -/
theorem sent_put {L : Lb} {H : Hp} {ls : List (Int × Addr)} {all : List Nat} {hist : Nat → Vbwsah.World} {tk : Nat} (hr : RingR L H ls ((all.take 16).map fun t => (t, hist t))) (da : all.Pairwise (· > ·)) (ha : ∀ t ∈ all, 0 < t ∧ t ≤ tk) (h0 : tk ≠ 0) {a : Addr} (l0 : L a = none) (wt : WAt H a (hist tk)) :
    ∃ l1, putK (encR ls) (ik (tk : Int)) (.ref a) = encR l1 ∧ l1 ≠ [] ∧ (l1.map (·.1)).Pairwise (· < ·) ∧ RingR L H (keepR 16 l1) (if Vbwsah.newest ((all.take 16).map fun t => (t, hist t)) = tk then (all.take 16).map fun t => (t, hist t) else Vbwsah.keep ((all.take 16).map fun t => (t, hist t)) tk (hist tk)) := by
  have hd := desc_take16 da (hist := hist)
  have srt := hr.sorted hd
  have hle : ((all.take 16).map fun t => (t, hist t)).length ≤ 16 := by rw [List.length_map, List.length_take]; omega
  by_cases c : Vbwsah.newest ((all.take 16).map fun t => (t, hist t)) = tk
  · rw [if_pos c]
    cases all with
    | nil => exact absurd c (fun z => h0 z.symm)
    | cons b rest =>
      have eb : b = tk := c
      subst eb
      rw [List.take_succ_cons, List.map_cons] at hr ⊢
      obtain ⟨l', a', el, hr'⟩ := last_is hr
      subst el
      have hlt : ∀ p ∈ l', p.1 < (b : Int) := by
        rw [List.map_append, List.pairwise_append] at srt
        intro p hp
        exact srt.2.2 p.1 (List.mem_map.mpr ⟨p, hp, rfl⟩) _ (by simp)
      refine ⟨l' ++ [((b : Int), a)], putK_last hlt, by simp, ?_, ?_⟩
      · refine snoc_sorted ?_ hlt
        rw [List.map_append, List.pairwise_append] at srt
        exact srt.1
      · have hl : (l' ++ [((b : Int), a)]).length ≤ 16 := by
          have := hr'.len
          rw [List.length_map, List.length_take] at this
          rw [List.length_append]; simp; omega
        unfold keepR
        rw [if_neg (by omega)]
        unfold RingR
        rw [List.reverse_cons]
        exact Paired.snoc hr' ⟨rfl, l0, wt⟩
  · rw [if_neg c]
    have hlt : ∀ q ∈ (all.take 16).map (fun t => (t, hist t)), q.1 < tk := fun q hq => by
      obtain ⟨t, ht, rfl⟩ := List.mem_map.mp hq
      have hta := List.mem_of_mem_take ht
      have h1 := (ha t hta).2
      cases all with
      | nil => cases hta
      | cons b rest =>
        have hb : b ≠ tk := c
        have hb2 := (ha b List.mem_cons_self).2
        show t < tk
        rcases List.mem_cons.mp hta with z | z
        · omega
        · have := (List.pairwise_cons.mp da).1 t z
          omega
    refine ⟨ls ++ [((tk : Int), a)], putK_encR (hr.lt hlt), by simp, snoc_sorted srt (hr.lt hlt), ?_⟩
    exact hr.more (by omega) hle l0 wt
end MN
set_option Elab.async false
set_option maxRecDepth 100000
set_option maxHeartbeats 2000000
set_option linter.unusedVariables false
namespace MN
open PySem PySem.Spec PyProof.Rows L2
open Vbwsah (Input Numbered Known Client State Packet Ring)
variable {P : Program} {w : World} {K : PySem.W.Frag} {mg : Str → Option Value} {base : Heap} {Z : Cs}
theorem ok_send_down (T : Txt K mg Z) : DefOk P w K mg base 6 "send_down" ["net", "number"] (fun vs H Q E => ∃ c : Int, spCall Z (.send c) [.int c] vs H Q E) := by
  refine T.f_send_down.ok sc_send_down (fun vs H Q E h => ?_) (fun f cdv A outer s H vs Q E hr h => ⟨_, (pss_cons (ps_if (pt_cmp (pc_dnotin (hu_of hr) (pv 1) (pe_fld (pv 0) rfl))) (pss_one (ps_ret (pe_lst (pa_cons (pe_gc T.c_NO_SUCH) pa_nil)))) pss_nil)
      (pss_cons (ps_if (pt_cmpR op_eq (pe_fld (pv 0) rfl) pe_int (nomark _)) (pss_one (ps_ret (pe_lst (pa_cons (pe_gc T.c_NO_TICK_YET) pa_nil)))) pss_nil)
      (pss_cons (ps_if (pt_val (pe_m0 (ok_Net_packets_full T) T.cl_Net hr (pv 0))) (pss_one (ps_ret (pe_lst (pa_cons (pe_gc T.c_FULL) pa_nil)))) pss_nil)
      (pss_cons (ps_set (i := 2) sc_send_down.nd rfl (Or.inl rfl) (pe_m (ok_Peer_make_down T) T.cl_Peer hr (pe_dget (hu_of hr) (pe_fld (pv 0) rfl) (pv 1) (fun _ _ => rfl)) (pa_cons (pe_fld (pv 0) rfl) (pa_cons (pe_dget (hu_of hr) (pe_fld (pv 0) rfl) (pe_fld (pv 0) rfl) (fun _ _ => rfl)) pa_nil))))
      (pss_one (ps_ret (pe_lst (pa_cons pe_int (pa_cons (pe_m (ok_Net_add_packet T) T.cl_Net hr (pv 0) (pa_cons (pv 2) pa_nil)) (pa_cons (pe_fld (pv 2) rfl) (pa_cons (pe_fld (pv 2) rfl) (pa_cons (pe_callB call_len_seq (by rfl) T.n_len (by decide +kernel) (pa_cons (pe_fld (pv 2) rfl) pa_nil)) pa_nil)))))))))))), ?_⟩)
  · obtain ⟨c, L, net, s, n, hist, rfl, _⟩ := h; rfl
  · obtain ⟨c, L, net, st, n, hist, rfl, ⟨A, sa⟩, iv, hn, q⟩ := h
    have q : Wants Z (.send c) L H net st Q := q
    have h0 := sa.h0
    rcases sa.onCl iv c with ⟨no, e1, e2⟩ | ⟨k, p, p', x, x', l1, l2, l1', l2', m1, m2, m1', m2', rfl, s1, s2, on⟩
    · refine st_seq (st_y (val_dnotin (val_var rfl) (val_net (f := "peers") (val_var rfl) h0 T T.na_Net_peers lk_Net_peers) sa.hp) (by rw [e2]; rfl) ?_)
      refine st_retL (fun Q q => q) (by decide) fun p hp => q.same sa (xs := [-1]) ?_ (Same.refl H) hp
      rw [Vbwsah.step, no]
    refine st_seq (st_n (val_dnotin (val_var rfl) (val_net (f := "peers") (val_var rfl) h0 T T.na_Net_peers lk_Net_peers) sa.hp) (by rw [s2.val]; rfl) ?_)
    obtain ⟨dx, sd, wtd, ls, lw, m, cp⟩ := s2.r
    obtain ⟨all, recv, per⟩ := iv.per _ _ _ s2.mem s1.mem
    have hpk : A.pk.length = st.packets.length := Paired.len sa.rl
    have hpl : (A.pk.map V.ref).length = st.packets.length := by rw [List.length_map]; exact hpk
    have hs0 := per.sent
    by_cases c0 : st.tick = 0
    · refine st_seq (st_y (ans_eq (val_net (f := "tick") (val_var rfl) h0 T T.na_Net_tick lk_Net_tick) val_c rfl (b := true) (by rw [c0]; rfl)) rfl ?_)
      refine st_retL (fun Q q => q) (by decide) fun p hp => q.same sa (xs := [-6]) ?_ (Same.refl H) hp
      rw [Vbwsah.step, on, if_pos c0]; rfl
    refine st_seq (st_n (ans_eq (val_net (f := "tick") (val_var rfl) h0 T T.na_Net_tick lk_Net_tick) val_c rfl (b := false) (decide_eq_false (fun z => c0 (by have := V.int.inj z; omega)))) rfl ?_)
    by_cases c2 : Vbwsah.PACKETS ≤ st.packets.length
    · refine st_seq (st_y (ans_val (val_pfull (val_var rfl) h0 sa.hl)) (decide_eq_true (by rw [hpl]; exact c2)) ?_)
      refine st_retL (fun Q q => q) (by decide) fun p hp => q.same sa (xs := [-4]) ?_ (Same.refl H) hp
      rw [Vbwsah.step, on, if_neg c0, if_pos c2]; rfl
    refine st_seq (st_n (ans_val (val_pfull (val_var rfl) h0 sa.hl)) (decide_eq_false (by rw [hpl]; exact c2)) ?_)
    have etd := told_hist iv c0
    obtain ⟨wa, hwm, wal, wat, wav⟩ := sa.rk.get (past_desc iv) (past_mem iv c0)
    have r2 := cp.r2
    have cs : (k, x').2.sent = (all.take 16).map fun t => (t, hist t) := hs0
    rw [cs] at r2
    obtain ⟨lq, eput, lne, lso, lri⟩ := sent_put r2 per.dAll per.tAll c0 wal wat
    have hd16 := desc_take16 per.dAll (hist := hist)
    have gd : ∀ t, t ≤ st.tick → Vbwsae.size (hist t) ≤ 200 := fun t ht => by have := size_104 (iv.good t ht); omega
    -- from what
    have hbase : ∃ (bs : Nat) (tb : Vbwsah.World), Vbwsah.downFor st k x' = .down k st.tick bs (Vbwsae.diff Vbwsah.same tb (hist st.tick)) ∧ Vbwsae.size tb ≤ 200 ∧ (((bs : Int) = (x'.ack : Int) ∧ ∃ ba, ((x'.ack : Int), ba) ∈ ls ∧ WAt H ba tb) ∨ ((bs : Int) = 0 ∧ tb = .none ∧ ∀ p ∈ ls, p.1 ≠ (x'.ack : Int))) := by
      unfold Vbwsah.downFor Vbwsah.worldAt
      rw [etd]
      by_cases a0 : x'.ack = 0
      · rw [if_pos a0]
        refine ⟨0, .none, ?_, by decide, .inr ⟨rfl, rfl, ?_⟩⟩
        · rw [a0]
        · refine r2.no fun y hy => ?_
          obtain ⟨t, ht, rfl⟩ := List.mem_map.mp hy
          have := (per.tAll t (List.mem_of_mem_take ht)).1
          show t ≠ _
          omega
      · rw [if_neg a0, hs0]
        cases ef : ((all.take 16).map fun t => (t, hist t)).find? fun y => y.1 == x'.ack with
        | none =>
          refine ⟨0, .none, rfl, by decide, .inr ⟨rfl, rfl, r2.no fun y hy z => ?_⟩⟩
          have := List.find?_eq_none.mp ef y hy
          simp [z] at this
        | some y =>
          have hm := List.mem_of_find?_eq_some ef
          have e1 : y.1 = x'.ack := by simpa using List.find?_some ef
          obtain ⟨t, ht, rfl⟩ := List.mem_map.mp hm
          have e1 : t = x'.ack := e1
          subst e1
          obtain ⟨ba, hb1, _, hb2, _⟩ := r2.get hd16 hm
          exact ⟨x'.ack, hist x'.ack, rfl, gd _ (per.tAll _ (List.mem_of_mem_take ht)).2, .inl ⟨rfl, ba, hb1, hb2⟩⟩
    obtain ⟨bs, tb, edn, zb, hbas⟩ := hbase
    have nws : wa ≠ sd := un_ne wal cp.l2
    have mk : MakeDown H sd wa (x'.ack : Int) (st.tick : Int) ls lq (bs : Int) tb (hist st.tick) := by
      refine ⟨r2.sorted hd16, ?_, hbas, ?_, wat, zb, gd _ (Nat.le_refl _), eput, lne, lso⟩
      · rw [r2.len, List.length_map, List.length_take]; omega
      · refine r2.no (t := 0) fun y hy => ?_
        obtain ⟨t, ht, rfl⟩ := List.mem_map.mp hy
        have := (per.tAll t (List.mem_of_mem_take ht)).1
        show t ≠ _
        omega
    refine ⟨_, rfl, net, Z.Net, A.dx, _, _, rfl, h0, T.cl_Net, T.na_Net_peers, lk_Net_peers, _, rfl, A.pd, .ref p'.2, rfl, s2.val ▸ DGet.k (k := ik (k : Int)) sa.hp, p'.2, dx, _, rfl, cp.h1, rfl, ?_⟩
    refine ⟨_, rfl, net, Z.Net, A.dx, _, _, rfl, h0, T.cl_Net, T.na_Net_tick, lk_Net_tick, _, rfl, net, Z.Net, A.dx, _, _, rfl, h0, T.cl_Net, T.na_Net_kept, lk_Net_kept, _, rfl, net, Z.Net, A.dx, _, _, rfl, h0, T.cl_Net, T.na_Net_tick, lk_Net_tick, A.kd, .ref wa, rfl, wav ▸ DGet.k (k := ik (st.tick : Int)) sa.hk, ?_⟩
    refine ⟨p'.2, dx, sd, wtd, wa, _, _, _, _, (bs : Int), ls, lq, tb, hist st.tick, rfl, cp.h1, cp.h2, nws, mk, fun H' u du ch rs fr hu hch hrs hu' hch' prs hsd' => ?_⟩
    have psd : p'.2 ≠ sd := ne_of cp.h1 cp.h2 (fun z => nomatch z)
    have wsd : wtd ≠ sd := lab_ne cp.l3 cp.l2 (by simp)
    have kp : Keep L (fun y => y = .peS k) H H' := fun a o e n => fr a o e fun z => n _ (by rw [z]; exact cp.l2) rfl
    have lsm := LSame.refl H L
    obtain ⟨sa', kp'⟩ := sa.setPe s2 (x' := { x' with sent := if Vbwsah.newest x'.sent = st.tick then x'.sent else Vbwsah.keep x'.sent st.tick (Vbwsah.told st) }) cp (H' := H') (ls' := keepR 16 lq) (lw' := lw) (fun a o e _ z2 _ => fr a o e z2) (fr _ _ cp.h1 psd) hsd' (by
        show RingR L H' (keepR 16 lq) (if Vbwsah.newest x'.sent = st.tick then x'.sent else Vbwsah.keep x'.sent st.tick (Vbwsah.told st))
        rw [etd, hs0]
        exact RingR.keep lri kp lsm) (fr _ _ cp.h3 wsd) (cp.r3.keep kp lsm) cp.pm
    have npu : u ≠ A.pl := ne_of_none' sa.hl hu
    have npc : ch ≠ A.pl := ne_of_none' sa.hl hch
    have pk : PkAt Z L H' u (.down k st.tick bs (Vbwsae.diff Vbwsah.same tb (hist st.tick))) := ⟨sa.fresh hu, du, ch, rs, hu', sa.fresh hch, fun r hr => sa.fresh (hrs r hr), hch', prs⟩
    obtain ⟨sb, kb⟩ := sa'.addPk pk
    refine ⟨_, rfl, net, A.dx, _, rfl, sa'.h0, rfl, _, rfl, net, A.dx, A.wa, A.kd, A.cd, A.pd, A.pl, _, _, _, .ref u, rfl, sa'.h0, sa'.hl, by rw [hpl]; have := iv.pk; omega, ?_⟩
    refine ⟨_, rfl, u, Z.Down, du, _, _, rfl, by rw [upd_ne npu]; exact hu', T.cl_Down, T.na_Down_tick, lk_Down_tick, _, rfl, u, Z.Down, du, _, _, rfl, by rw [upd_ne npu]; exact hu', T.cl_Down, T.na_Down_base, lk_Down_base, _, rfl, u, Z.Down, du, _, _, rfl, by rw [upd_ne npu]; exact hu', T.cl_Down, T.na_Down_changes, lk_Down_changes, ch, _, rfl, .inl (SqL.of (by rw [upd_ne npc]; exact hch')), ?_⟩
    refine ⟨(by show 5 ≤ sizeLine; decide), fun r hr => ?_⟩
    have el : (A.pk.map V.ref ++ [V.ref u]) = (A.pk ++ [u]).map V.ref := by rw [List.map_append]; rfl
    rw [el] at hr ⊢
    have kk : Keep L OwnM H (upd H' A.pl (.lst ((A.pk ++ [u]).map V.ref))) := fun a o e n => kb a o (kp' a o e n) n
    have := q.done (xs := [0, (st.packets.length : Int), (st.tick : Int), (bs : Int), ((Vbwsae.diff Vbwsah.same tb (hist st.tick)).length : Int)]) (by
      rw [Vbwsah.step, on, if_neg c0, if_neg c2]
      rw [show Vbwsah.downFor st ((k : Int)).toNat x' = Vbwsah.downFor st k x' from rfl, edn]; rfl) sb kk hr
    rw [hpl, List.length_map, Paired.len prs]
    exact this
end MN
set_option Elab.async false
set_option maxRecDepth 100000
set_option maxHeartbeats 2000000
set_option linter.unusedVariables false
namespace MN
open PySem PySem.Spec PyProof.Rows L2
open Vbwsae (Change)
open Vbwsah (Input Numbered Known Client State Packet Ring)
variable {P : Program} {w : World} {K : PySem.W.Frag} {mg : Str → Option Value} {base : Heap} {Z : Cs}
/-- what a difference is like -/
theorem diff_facts {a b : Vbwsae.T Int} (wa : WF a) (wb : WF b) : ((Vbwsae.diff Vbwsah.same a b).map (·.key)).Nodup ∧ (∀ d ∈ Vbwsae.diff Vbwsah.same a b, d.key < 2 ^ 40 ∧ d.old = Vbwsae.get a d.key ∧ d.old ≠ d.new) ∧ (Vbwsae.diff Vbwsah.same a b).length ≤ Vbwsae.size a + Vbwsae.size b := by
  obtain ⟨ks, sk, bk, mk⟩ := bothKeys wa wb
  have hd := diff_eq wa wb sk (fun k h => (mk k).mpr h)
  have nd : ks.Nodup := sk.imp fun {x y} (h : x < y) => by omega
  refine ⟨?_, fun d h => ?_, ?_⟩
  · rw [hd]
    have go : ∀ l : List Nat, l.Nodup → ((l.filterMap (chg (Vbwsae.get a) (Vbwsae.get b))).map (·.key)).Nodup ∧ ∀ d ∈ l.filterMap (chg (Vbwsae.get a) (Vbwsae.get b)), d.key ∈ l := fun l => by
      induction l with
      | nil => intro _; exact ⟨List.nodup_nil, fun d h => absurd h (by simp)⟩
      | cons k l ih =>
        intro h
        obtain ⟨h1, h2⟩ := List.nodup_cons.mp h
        obtain ⟨i1, i2⟩ := ih h2
        rw [List.filterMap_cons]
        cases e : chg (Vbwsae.get a) (Vbwsae.get b) k with
        | none => exact ⟨i1, fun d hd => List.mem_cons_of_mem _ (i2 d hd)⟩
        | some c =>
          have ek : c.key = k := (chg_old e).1
          refine ⟨?_, fun d hd => ?_⟩
          · show (c.key :: _).Nodup
            rw [List.nodup_cons]
            refine ⟨fun z => ?_, i1⟩
            obtain ⟨d, hd, ed⟩ := List.mem_map.mp z
            exact h1 (by rw [← ek, ← ed]; exact i2 d hd)
          · rcases List.mem_cons.mp hd with z | z
            · rw [z, ek]; exact List.mem_cons_self
            · exact List.mem_cons_of_mem _ (i2 d z)
    exact (go ks nd).1
  · rw [hd] at h
    obtain ⟨k, hk, e⟩ := List.mem_filterMap.mp h
    unfold chg at e
    by_cases c : Vbwsae.get a k = Vbwsae.get b k
    · rw [if_pos c] at e; cases e
    · rw [if_neg c] at e
      cases e
      exact ⟨bk k hk, rfl, c⟩
  · rw [hd]
    refine Nat.le_trans (List.length_filterMap_le _ _) ?_
    have h1 : ks.length ≤ (keys a ++ keys b).length := nodup_len nd fun x hx => List.mem_append.mpr (((mk x).mp hx).imp (mem_keys wa).mpr (mem_keys wb).mpr)
    rw [List.length_append] at h1
    have h2 : (keys a).length = Vbwsae.size a := by rw [size_pairs]; unfold keys; rw [List.length_map]
    have h3 : (keys b).length = Vbwsae.size b := by rw [size_pairs]; unfold keys; rw [List.length_map]
    omega
section
variable {σ : L2.St} {H : Hp} {ta tb tc : TE}
theorem ans_test {b : Bool} (ha : Val ta σ H (.bl b)) : Ans (tTest ta) σ H b := fun Q q => ha _ ⟨b, rfl, q⟩
theorem val_chainLt {lo z hi : Int} (h1 : Val ta σ H (.int lo)) (h2 : Val tb σ H (.int z)) (h3 : Val tc σ H (.int hi)) : Val (tChain (rI0 fun i j => .bl (decide (i ≤ j))) (rI0 fun i j => .bl (decide (i < j))) ta tb tc) σ H (.bl (decide (lo ≤ z) && decide (z < hi))) := fun Q q => h1 _ (h2 _ ⟨lo, z, rfl, rfl, _, rfl, by
  by_cases c : lo ≤ z
  · rw [decide_eq_true c] at q ⊢
    exact iteT (h3 _ ⟨z, hi, rfl, rfl, q⟩)
  · rw [decide_eq_false c] at q ⊢
    exact iteF q⟩)
theorem val_isi {a C D dx : Addr} {fs : List (Str × V)} {b : Bool} (h1 : Val ta σ H (.ref a)) (h2 : Val tb σ H (.ref D)) (ha : H a = some (.ins C dx fs)) (hc : Cls K C) (ty : TyI K C) (k : PySem.W.kitOne K (.ref C) (.ref D) = some b) : Val (fun σ H Q => (tCons ta (tCons tb tNil)) σ H fun vs H1 => rIsi K vs H1 Q) σ H (.bl b) := fun Q q =>
  h1 _ (h2 _ ⟨_, _, _, _, b, rfl, .own D, .base (.ins ha hc ty.1 ty.2.1 ty.2.2.1 ty.2.2.2), k, q⟩)
end
theorem Split.self {α : Type} {R : Int × Addr → Nat × α → Prop} {l : List (Int × Addr)} {m : List (Nat × α)} {c : Nat} {p : Int × Addr} {x : α} {l1 l2 : List (Int × Addr)} {m1 m2 : List (Nat × α)} (s : Split R l m c p x l1 l2 m1 m2) : (m.map fun y => if y.1 = c then (c, x) else y) = m := by
  rw [s.em, List.map_append, List.map_cons, map_other s.n1, map_other s.n2, if_pos rfl]
/-! inputs that came up -/
theorem putInput_has {x : Numbered} : ∀ {l : List Numbered}, (l.map (·.1)).Pairwise (· < ·) → x.1 ∈ l.map (·.1) → Vbwsah.putInput x l = l
  | [], _, h => by cases h
  | y :: l, hs, h => by
    rw [List.map_cons, List.pairwise_cons] at hs
    rw [List.map_cons] at h
    rw [Vbwsah.putInput]
    rcases List.mem_cons.mp h with z | z
    · rw [if_neg (by omega), if_pos z]
    · have := hs.1 _ z
      rw [if_neg (by omega), if_neg (by omega), putInput_has hs.2 z]
theorem putInput_new {x : Numbered} : ∀ {l : List Numbered}, x.1 ∉ l.map (·.1) → (Vbwsah.putInput x l).Perm (x :: l)
  | [], _ => .refl _
  | y :: l, h => by
    rw [List.map_cons, List.mem_cons, not_or] at h
    rw [Vbwsah.putInput]
    by_cases c : x.1 < y.1
    · rw [if_pos c]
    · rw [if_neg c, if_neg h.1]
      exact (List.Perm.cons y (putInput_new h.2)).trans (List.Perm.swap x y l)
theorem InsR.nums {L : Lb} {H : Hp} {l : List (Int × Addr)} {m : List Numbered} (h : InsR L H l m) : l.map (·.1) = m.map fun q => (q.1 : Int) := h.rel.nums
theorem up_fold {L : Lb} {H : Hp} {c : Nat} {lu : List (Int × Addr)} {is : List Numbered} (hu : InsR L H lu is) : ∀ {lw : List (Int × Addr)} {m l : List Numbered}, InsR L H lw m → m.Perm l → (l.map (·.1)).Pairwise (· < ·) →
    ∃ m', InsR L H (lu.foldl (addW (c : Int)) lw) m' ∧ m'.Perm (is.foldl (fun l i => if c < i.1 then Vbwsah.putInput i l else l) l) := by
  induction hu with
  | nil => intro lw m l h1 h2 _; exact ⟨m, h1, h2⟩
  | @cons p i lu is r t ih =>
    intro lw m l h1 h2 h3
    rw [List.foldl_cons, List.foldl_cons]
    have e1 : p.1 = (i.1 : Int) := r.1
    have mem : p.1 ∈ lw.map (·.1) ↔ i.1 ∈ l.map (·.1) := by
      rw [h1.nums]
      constructor
      · intro z
        obtain ⟨y, hy, e⟩ := List.mem_map.mp z
        exact List.mem_map.mpr ⟨y, h2.mem_iff.mp hy, by omega⟩
      · intro z
        obtain ⟨y, hy, e⟩ := List.mem_map.mp z
        exact List.mem_map.mpr ⟨y, h2.mem_iff.mpr hy, by omega⟩
    unfold addW
    by_cases c1 : c < i.1
    · rw [if_pos c1]
      by_cases c2 : i.1 ∈ l.map (·.1)
      · rw [if_neg (fun z => z.2 (mem.mpr c2)), putInput_has h3 c2]
        exact ih h1 h2 h3
      · rw [if_pos ⟨by omega, fun z => c2 (mem.mp z)⟩]
        refine ih (Paired.snoc h1 r) ?_ (putInput_sorted h3)
        exact (List.perm_append_singleton i m).trans ((List.Perm.cons i h2).trans (putInput_new c2).symm)
    · rw [if_neg c1, if_neg (fun z => c1 (by have := z.1; omega))]
      exact ih h1 h2 h3
theorem filter_ins {L : Lb} {H : Hp} {l : List (Int × Addr)} {m : List Numbered} (h : InsR L H l m) {f : Int → Bool} {g : Nat → Bool} (e : ∀ q ∈ m, f (q.1 : Int) = g q.1) : InsR L H (l.filter fun p => f p.1) (m.filter fun q => g q.1) := by
  induction h with
  | nil => exact .nil
  | @cons p q l m r t ih =>
    have e1 : p.1 = (q.1 : Int) := r.1
    have eq := e q List.mem_cons_self
    have ih := ih fun y hy => e y (List.mem_cons_of_mem _ hy)
    rw [List.filter_cons, List.filter_cons, e1, eq]
    cases g q.1 with
    | true => exact .cons r ih
    | false => exact ih
theorem ok_deliver (T : Txt K mg Z) : DefOk P w K mg base 4 "deliver" ["net", "place"] (fun vs H Q E => ∃ p : Int, spCall Z (.deliver p) [.int p] vs H Q E) := by
  refine T.f_deliver.ok sc_deliver (fun vs H Q E h => ?_) (fun f cdv A outer s H vs Q E hr h => ⟨_, (pss_cons (ps_if (pt_not (pt_chain op_le op_lt pe_int (pv 1) (pe_callB call_len_seq (by rfl) T.n_len (by decide +kernel) (pa_cons (pe_fld (pv 0) rfl) pa_nil)))) (pss_one (ps_ret (pe_lst (pa_cons (pe_gc T.c_NO_SUCH) pa_nil)))) pss_nil)
      (pss_cons (ps_set (i := 2) sc_deliver.nd rfl (Or.inl rfl) (pe_ix ix_list (pe_fld (pv 0) rfl) (pv 1) (fun _ _ => rfl)))
      (pss_cons (ps_if (pt_val (pe_callB call_isi (by rfl) T.n_isinstance (by decide +kernel) (pa_cons (pv 2) (pa_cons (pe_gc T.g_Down) pa_nil)))) (pss_cons (ps_set (i := 3) sc_deliver.nd rfl (Or.inl rfl) (pe_m (ok_Client_take_down T) T.cl_Client hr (pe_dget (hu_of hr) (pe_fld (pv 0) rfl) (pe_fld (pv 2) rfl) (fun _ _ => rfl)) (pa_cons (pv 2) pa_nil)))
      (pss_one (ps_ret (pe_lst (pa_cons pe_int (pa_cons (pe_ifExp (pt_val (pv 3)) pe_int pe_int) pa_nil)))))) pss_nil)
      (pss_cons (ps_set (i := 4) sc_deliver.nd rfl (Or.inl rfl) (pe_dget (hu_of hr) (pe_fld (pv 0) rfl) (pe_fld (pv 2) rfl) (fun _ _ => rfl)))
      (pss_cons (ps_expr (pe_m (ok_Peer_take_up T) T.cl_Peer hr (pv 4) (pa_cons (pv 2) (pa_cons (pe_m (ok_Net_followed_by T) T.cl_Net hr (pv 0) (pa_cons (pe_fld (pv 2) rfl) pa_nil)) pa_nil))))
      (pss_one (ps_ret (pe_lst (pa_cons pe_int (pa_cons (pe_fld (pv 4) rfl) (pa_cons (pe_callB call_lenD (by rfl) T.n_len (by decide +kernel) (pa_cons (pe_fld (pv 4) rfl) pa_nil)) pa_nil))))))))))), ?_⟩)
  · obtain ⟨c, L, net, s, n, hist, rfl, _⟩ := h; rfl
  · obtain ⟨pl, L, net, st, n, hist, rfl, ⟨A, sa⟩, iv, hn, q⟩ := h
    have q : Wants Z (.deliver pl) L H net st Q := q
    have h0 := sa.h0
    have hpk : A.pk.length = st.packets.length := Paired.len sa.rl
    have vlen : ∀ σ : L2.St, σ[0]? = some (some (.ref net)) → Val (fun σ H Q => (tCons (tFld K (tVar 0) "packets") tNil) σ H fun vs H1 => ∃ p xs, vs = [.ref p] ∧ (SqL K H1 p xs ∨ SqT K H1 p xs) ∧ Q (.int (xs.length : Int)) H1) σ H (.int ((A.pk.map V.ref).length : Int)) := fun σ hσ Q q => ⟨_, hσ, net, Z.Net, A.dx, _, _, rfl, h0, T.cl_Net, T.na_Net_packets, lk_Net_packets, A.pl, _, rfl, .inl (SqL.of sa.hl), q⟩
    by_cases c1 : (decide ((0 : Int) ≤ pl) && decide (pl < ((A.pk.map V.ref).length : Int))) = true
    · refine st_seq (st_n (ans_not (ans_test (val_chainLt val_c (val_var rfl) (vlen _ rfl)))) (by rw [c1]; rfl) ?_)
      have hb : 0 ≤ pl ∧ pl < (A.pk.length : Int) := by
        rw [List.length_map] at c1
        simp only [Bool.and_eq_true, decide_eq_true_eq] at c1
        exact c1
      obtain ⟨j, rfl⟩ : ∃ j : Nat, pl = (j : Int) := ⟨pl.toNat, by omega⟩
      have hj : j < A.pk.length := by omega
      obtain ⟨pk, hpkj, pkat⟩ := Paired.at sa.rl (List.getElem?_eq_getElem hj)
      have hmem : pk ∈ st.packets := List.mem_of_getElem? hpkj
      have hai : atI (A.pk.map V.ref) (j : Int) = some (.ref A.pk[j]) := atI_nat (by rw [List.getElem?_map, List.getElem?_eq_getElem hj]; rfl)
      have hsel : (if (j : Int) < 0 then none else st.packets[((j : Int)).toNat]?) = some pk := by rw [if_neg (by omega)]; exact hpkj
      generalize A.pk[j] = a at pkat hai
      refine ⟨_, rfl, net, Z.Net, A.dx, _, _, rfl, h0, T.cl_Net, T.na_Net_packets, lk_Net_packets, _, rfl, A.pl, _, _, _, rfl, rfl, SqL.of sa.hl, hai, ?_⟩
      obtain ⟨kn, hkn⟩ := iv.pkc pk hmem
      cases pk with
      | down c t b d =>
        have hkn : (c, kn) ∈ st.known := hkn
        obtain ⟨la, dp, ch, rs, hpa, lch, lrs, hch, prs⟩ := pkat
        rcases rows_split ClAt.nm sa.rc iv.numsC c with ⟨f1, n1⟩ | ⟨p, x, l1, l2, m1, m2, s1⟩
        · exfalso
          have : c ∈ st.clients.map (·.1) := by rw [iv.fst]; exact List.mem_map.mpr ⟨_, hkn, rfl⟩
          obtain ⟨y, hy, ey⟩ := List.mem_map.mp this
          have := List.find?_eq_none.mp f1 y hy
          simp [ey] at this
        obtain ⟨all, recv, per⟩ := iv.per _ _ _ hkn s1.mem
        obtain ⟨dx, wd, idd, lw, li, bo, cp⟩ := s1.r
        have hcl : Vbwsah.clientAt st c = some x := by unfold Vbwsah.clientAt; rw [s1.fnd]; rfl
        have hstep : Vbwsah.step st (.deliver (j : Int)) = (Vbwsah.setClient st c (Vbwsah.heardDown x t b d).2, [0, ((Vbwsah.heardDown x t b d).1 : Int)]) := by
          rw [Vbwsah.step, hsel]
          show (match Vbwsah.clientAt st c with | none => _ | some x => _) = _
          rw [hcl]
        refine st_seq (st_y (ans_val (val_isi (val_var rfl) val_c hpa T.cl_Down T.ty_Down T.kit_DD)) rfl ?_)
        refine ⟨_, rfl, net, Z.Net, A.dx, _, _, rfl, h0, T.cl_Net, T.na_Net_clients, lk_Net_clients, _, rfl, a, Z.Down, dp, _, _, rfl, hpa, T.cl_Down, T.na_Down_client, lk_Down_client, A.cd, .ref p.2, rfl, s1.val ▸ DGet.k (k := ik (c : Int)) sa.hc, p.2, dx, _, rfl, cp.h1, rfl, _, rfl, ?_⟩
        refine ⟨p.2, dx, wd, idd, a, dp, ch, _, _, _, _, _, _, _, _, rfl, cp.h1, hpa, fun hold => ?_, fun hnew => ?_⟩
        · have hold : (t : Int) ≤ (Vbwsah.newest x.ring : Int) := hold
          rcases heard_cases iv per hmem with ⟨_, e⟩ | ⟨z, _⟩
          · rw [e] at hstep
            have es : Vbwsah.setClient st c x = st := by
              unfold Vbwsah.setClient
              rw [s1.self]
            refine ⟨_, rfl, _, rfl, iteF ⟨(by show 2 ≤ sizeLine; decide), fun p hp => ?_⟩⟩
            exact q.same sa (xs := [0, 1]) (by rw [hstep]; show (Vbwsah.setClient st c x, _) = _; rw [es]; rfl) (Same.refl H) hp
          · omega
        · have hnew : (Vbwsah.newest x.ring : Int) < (t : Int) := hnew
          rcases heard_cases iv per hmem with ⟨z, _⟩ | ⟨z, hlt, w0, v, ew, hbw, wf0, eg, hbt, htt, eap, wfv, gv, e⟩
          · omega
          rw [e] at hstep
          have hd : d = Vbwsae.diff Vbwsah.same (hist b) (hist t) := (per.down t b d hmem).2.1
          have gb := iv.good b hbt
          have gt := iv.good t htt
          obtain ⟨f1, f2, f3⟩ := diff_facts gb.wf gt.wf
          rw [← hd] at f1 f2 f3
          have dring : (x.ring.map (·.1)).Pairwise (· > ·) := by rw [per.ring]; exact per.dRecv.sublist (List.take_sublist _ _)
          have rl16 : x.ring.length ≤ 16 := by
            have := congrArg List.length per.ring
            rw [List.length_map, List.length_take] at this
            omega
          have rlt : ∀ y ∈ x.ring, y.1 < t := fun y hy => by
            refine hlt _ (List.mem_of_mem_take (i := 16) ?_)
            rw [← per.ring]
            exact List.mem_map.mpr ⟨y, hy, rfl⟩
          have ev : v = d.foldl (fun t c => Vbwsae.change c t) w0 := by
            unfold Vbwsae.apply at eap
            split at eap
            · exact (Option.some.inj eap).symm
            · cases eap
          have z104 : Vbwsae.size w0 ≤ 104 := size_104 (gb.ext wf0 eg)
          have zb := size_104 gb
          have zt := size_104 gt
          have lr := cp.r2.len
          have lix := Paired.len cp.r3
          have hx64 := per.xlen
          have nwi : wd ≠ idd := lab_ne cp.l2 cp.l3 (by simp)
          have pwd : p.2 ≠ wd := ne_of cp.h1 cp.h2 (fun z => nomatch z)
          have pid : p.2 ≠ idd := ne_of cp.h1 cp.h3 (fun z => nomatch z)
          refine ⟨lw, li, d, w0, cp.h2, cp.h3, nwi, ⟨?_, cp.r2.lt rlt, cp.r2.sorted dring, ?_, ⟨rs, hch, prs⟩, f1, fun y hy => ?_, by omega, ?_, ?_, by show (0 : Int) ≤ (x.body : Int); omega⟩, fun H' nw kvs' fr hnw hnw' rk hca hwd hid => ?_⟩
          · rcases hbw with ⟨z1, z2⟩ | ⟨z1, z2⟩
            · exact .inl ⟨by rw [z1]; rfl, z2⟩
            · obtain ⟨wa, hm, _, wt, _⟩ := cp.r2.get dring z2
              exact .inr ⟨by omega, wa, hm, wt⟩
          · show lw.length ≤ 100
            have : (c, x).2.ring.length = x.ring.length := rfl
            omega
          · obtain ⟨y1, y2, y3⟩ := f2 y hy
            exact ⟨y1, by rw [y2, eg], y3⟩
          · rw [cp.r3.nums, List.pairwise_map]
            have := per.xin
            rw [List.pairwise_map] at this
            exact this.imp fun {x y} z => by omega
          · show li.length ≤ 1000
            have : (c, x).2.inputs.length = x.inputs.length := rfl
            omega
          · refine ⟨_, rfl, _, rfl, iteT ⟨(by show 2 ≤ sizeLine; decide), fun r hr => ?_⟩⟩
            rw [← ev] at rk hid
            have kp : Keep L OwnM H H' := fun a o e n => by
              refine fr a o e (fun z => ?_) (fun z => ?_) (fun z => ?_)
              · exact n _ (by rw [z]; exact cp.l1) (by nofun)
              · exact n _ (by rw [z]; exact cp.l2) (by nofun)
              · exact n _ (by rw [z]; exact cp.l3) (by nofun)
            have lsm := LSame.refl H L
            have rr := (RingR.keep cp.r2 kp lsm).more (m := 16) (by omega) rl16 (t := t) (a := nw) (v := v) (sa.fresh hnw) ⟨kvs', hnw', rk⟩
            have ri := filter_ins (InsR.keep cp.r3 kp lsm) (f := fun z => decide (Vbwsah.at_ v (1000 + x.body) < z)) (g := fun z => decide (Vbwsah.countOf v x.body < z)) (fun i hi => by
              have := per.xinB i hi
              unfold Vbwsah.countOf Vbwsah.countKey
              exact decide_eq_decide.mpr (by omega))
            have sc := sa.setCl s1 (x' := { x with ring := Vbwsah.keep x.ring t v, inputs := x.inputs.filter fun i => decide (Vbwsah.countOf v x.body < i.1) }) cp fr hca hwd rr hid ri (cp.rb.keep kp lsm)
            exact q.done (xs := [0, 0]) hstep sc.1 sc.2 hr
      | up c ac is =>
        have hkn : (c, kn) ∈ st.known := hkn
        obtain ⟨la, du, ud, lu, hpa, lud, hud, rins⟩ := pkat
        rcases rows_split PeAt.nm sa.rp iv.nums c with ⟨f1, n1⟩ | ⟨p, k, l1, l2, m1, m2, s1⟩
        · exfalso
          have := List.find?_eq_none.mp f1 _ hkn
          simp at this
        have hc : ∃ x, (c, x) ∈ st.clients := by
          have : c ∈ st.clients.map (·.1) := by rw [iv.fst]; exact List.mem_map.mpr ⟨_, hkn, rfl⟩
          obtain ⟨y, hy, ey⟩ := List.mem_map.mp this
          exact ⟨y.2, by rw [← ey]; exact hy⟩
        obtain ⟨x, hx⟩ := hc
        obtain ⟨all, recv, per⟩ := iv.per _ _ _ s1.mem hx
        obtain ⟨dx, sd, wtd, ls, lw, m, cp⟩ := s1.r
        have hkl : Vbwsah.knownAt st c = some k := by unfold Vbwsah.knownAt; rw [s1.fnd]; rfl
        have hstep : Vbwsah.step st (.deliver (j : Int)) = (Vbwsah.setKnown st c (Vbwsah.heardUp st.world k ac is), [0, ((Vbwsah.heardUp st.world k ac is).ack : Int), ((Vbwsah.heardUp st.world k ac is).inputs.length : Int)]) := by
          rw [Vbwsah.step, hsel]
          show (match Vbwsah.knownAt st c with | none => _ | some x => _) = _
          rw [hkl]
        obtain ⟨hb8, hbd⟩ := iv.body _ s1.mem
        have hco := countOf_at iv.world hb8 hbd
        have hval : valV A.kw (ik (1000 + (k.body : Int))) = some (.int (Vbwsah.countOf st.world k.body : Int)) := by
          rw [show 1000 + (k.body : Int) = ((1000 + k.body : Nat) : Int) by omega, sa.rw.get]
          unfold Vbwsah.isBody Vbwsah.countKey at hbd
          obtain ⟨v, ev⟩ := Option.isSome_iff_exists.mp hbd
          have ev : Vbwsae.get st.world (1000 + k.body) = some v := ev
          have hco : (Vbwsah.countOf st.world k.body : Int) = Vbwsah.at_ st.world (1000 + k.body) := hco
          rw [hco, ev]
          unfold Vbwsah.at_
          rw [ev]; rfl
        refine st_seq (st_n (ans_val (val_isi (val_var rfl) val_c hpa T.cl_Up T.ty_Up T.kit_UD)) rfl ?_)
        refine ⟨_, rfl, net, Z.Net, A.dx, _, _, rfl, h0, T.cl_Net, T.na_Net_peers, lk_Net_peers, _, rfl, a, Z.Up, du, _, _, rfl, hpa, T.cl_Up, T.na_Up_client, lk_Up_client, A.pd, .ref p.2, rfl, s1.val ▸ DGet.k (k := ik (c : Int)) sa.hp, ?_⟩
        have hup := per.up ac is hmem
        have hlu : lu.length = is.length := Paired.len rins
        have hlw : lw.length ≤ 1000 := by
          have e1 := Paired.len cp.r3
          have e2 := cp.pm.length_eq
          have e3 : (k.inputs.map (·.1)).length ≤ (List.range (x.next)).length := nodup_len (per.kin.imp fun {x y} (h : x < y) => by omega) fun y hy => by
            obtain ⟨i, hi, e⟩ := List.mem_map.mp hy
            rw [← e]; exact List.mem_range.mpr (per.kinB i hi).2
          rw [List.length_map, List.length_range] at e3
          have := per.next.2
          have e2 : m.length = k.inputs.length := e2
          omega
        have nuw : ud ≠ wtd := un_ne lud cp.l3
        refine ⟨_, rfl, p.2, dx, _, rfl, cp.h1, rfl, _, rfl, _, rfl, net, A.dx, _, rfl, h0, rfl, _, rfl, a, Z.Up, du, _, _, rfl, hpa, T.cl_Up, T.na_Up_client, lk_Up_client, net, A.dx, A.wa, A.kd, A.cd, A.pd, A.pl, p.2, dx, sd, wtd, _, _, _, _, _, A.kw, encR A.lp, _, rfl, h0, .inl sa.hp, s1.val, cp.h1, sa.hw, hval, ?_⟩
        refine ⟨p.2, dx, sd, wtd, a, du, ud, _, _, _, _, _, _, encR ls, lu, lw, rfl, cp.h1, hpa, cp.h2, hud, cp.h3, nuw, by omega, hlw, fun H' fr hp' hw' => ?_⟩
        have kp : Keep L OwnM H H' := fun a o e n => by
          refine fr a o e (fun z => ?_) (fun z => ?_)
          · exact n _ (by rw [z]; exact cp.l1) (by nofun)
          · exact n _ (by rw [z]; exact cp.l3) (by nofun)
        have lsm := LSame.refl H L
        have psd : sd ≠ p.2 := Ne.symm (ne_of cp.h1 cp.h2 (fun z => nomatch z))
        have wsd : sd ≠ wtd := lab_ne cp.l2 cp.l3 (by simp)
        obtain ⟨m', r', pm'⟩ := up_fold (c := Vbwsah.countOf st.world k.body) rins cp.r3 cp.pm per.kin
        have eack : (if (k.ack : Int) < (ac : Int) ∧ (valV (encR ls) (ik (ac : Int))).isSome = true then (ac : Int) else (k.ack : Int)) = ((Vbwsah.heardUp st.world k ac is).ack : Int) := by
          have e1 : (valV (encR ls) (ik (ac : Int))).isSome = k.sent.any fun y => y.1 == ac := by
            rw [encR_some]
            have e2 : ((ac : Int) ∈ ls.map (·.1)) ↔ (k.sent.any fun y => y.1 == ac) = true := by
              rw [cp.r2.nums, List.mem_reverse, List.any_eq_true]
              constructor
              · intro z
                obtain ⟨y, hy, e⟩ := List.mem_map.mp z
                exact ⟨y, hy, by simp; omega⟩
              · rintro ⟨y, hy, e⟩
                exact List.mem_map.mpr ⟨y, hy, by simp at e; omega⟩
            cases e3 : k.sent.any fun y => y.1 == ac with
            | true => exact decide_eq_true (e2.mpr e3)
            | false => exact decide_eq_false (fun z => by rw [e2.mp z] at e3; cases e3)
          rw [e1]
          unfold Vbwsah.heardUp
          show _ = (((if k.ack < ac ∧ (k.sent.any fun y => y.1 == ac) = true then ac else k.ack : Nat)) : Int)
          by_cases z : k.ack < ac ∧ (k.sent.any fun y => y.1 == ac) = true
          · rw [if_pos z, if_pos ⟨by omega, z.2⟩]
          · rw [if_neg z, if_neg (fun y => z ⟨by omega, y.2⟩)]
        have hp' : H' p.2 = some (oPeer Z dx (c : Int) (k.body : Int) (if (k.ack : Int) < (ac : Int) ∧ (valV (encR ls) (ik (ac : Int))).isSome = true then (ac : Int) else (k.ack : Int)) sd wtd) := hp'
        rw [eack] at hp'
        have sc := sa.setPe s1 (H' := H') (x' := Vbwsah.heardUp st.world k ac is) cp (ls' := ls) (fun a o e z1 z2 z3 => fr a o e z1 z3) hp' (fr _ _ cp.h2 psd wsd) (RingR.keep cp.r2 kp lsm) hw' (r'.keep kp lsm) pm'
        refine ⟨_, rfl, p.2, Z.Peer, dx, _, _, rfl, hp', T.cl_Peer, T.na_Peer_known_tick, lk_Peer_known_tick, _, rfl, p.2, Z.Peer, dx, _, _, rfl, hp', T.cl_Peer, T.na_Peer_waiting, lk_Peer_waiting, wtd, _, rfl, hw', ?_⟩
        refine ⟨(by show 3 ≤ sizeLine; decide), fun r hr => ?_⟩
        have := q.done hstep sc.1 sc.2 hr
        have el : (encR (lu.foldl (addW (Vbwsah.countOf st.world k.body : Int)) lw)).length = (Vbwsah.heardUp st.world k ac is).inputs.length := by
          rw [encR_len, Paired.len r', pm'.length_eq]; rfl
        rw [el]
        exact this
    · have c1 : (decide ((0 : Int) ≤ pl) && decide (pl < ((A.pk.map V.ref).length : Int))) = false := by simpa using c1
      refine st_seq (st_y (ans_not (ans_test (val_chainLt val_c (val_var rfl) (vlen _ rfl)))) (by rw [c1]; rfl) ?_)
      refine st_retL (fun Q q => q) (by decide) fun p hp => q.same sa (xs := [-1]) ?_ (Same.refl H) hp
      rw [List.length_map, hpk] at c1
      rw [Vbwsah.step]
      by_cases c0 : pl < 0
      · rw [if_pos c0]; rfl
      · rw [if_neg c0, List.getElem?_eq_none (by
          rw [Bool.and_eq_false_iff, decide_eq_false_iff_not, decide_eq_false_iff_not] at c1
          rcases c1 with z | z <;> omega)]; rfl
end MN
set_option Elab.async false
set_option maxRecDepth 100000
set_option maxHeartbeats 2000000
set_option linter.unusedVariables false
namespace MN
open PySem PySem.Spec PyProof.Rows L2
open Vbwsae (Change)
open Vbwsah (Input Numbered Known Client State Packet Ring)
variable {P : Program} {w : World} {K : PySem.W.Frag} {mg : Str → Option Value} {base : Heap} {Z : Cs}
/-- the labels behind a client more -/
def labC (L : Lb) (c : Nat) (ca wd idd pe sd wtd : Addr) : Lb := fun a => if a = ca then some (.cl c) else if a = wd then some (.clW c) else if a = idd then some (.clI c) else if a = pe then some (.pe c) else if a = sd then some (.peS c) else if a = wtd then some (.peW c) else L a
theorem StA.addCl {L : Lb} {H H' : Hp} {net : Addr} {s : State} {A : Ads} (h : StA Z L H net s A) {c b : Nat} {ca dc wd idd pe dp sd wtd : Addr} (fr : ∀ a o, H a = some o → a ≠ A.cd → a ≠ A.pd → H' a = some o)
    (f1 : H ca = none) (f2 : H wd = none) (f3 : H idd = none) (f4 : H pe = none) (f5 : H sd = none) (f6 : H wtd = none) (nd : [ca, wd, idd, pe, sd, wtd].Nodup)
    (h1 : H' ca = some (oClient Z dc (c : Int) (b : Int) 0 wd 0 idd .non)) (h2 : H' wd = some (.dK [])) (h3 : H' idd = some (.dK [])) (h4 : H' pe = some (oPeer Z dp (c : Int) (b : Int) 0 sd wtd)) (h5 : H' sd = some (.dK [])) (h6 : H' wtd = some (.dK []))
    (hc : H' A.cd = some (.dK (encR (A.lc ++ [((c : Int), ca)])))) (hp : H' A.pd = some (.dK (encR (A.lp ++ [((c : Int), pe)])))) (nc : ∀ y ∈ s.clients, y.1 ≠ c) :
    StA Z (labC L c ca wd idd pe sd wtd) H' net { s with clients := s.clients ++ [(c, { body := b })], known := s.known ++ [(c, { body := b })] } { A with lc := A.lc ++ [((c : Int), ca)], lp := A.lp ++ [((c : Int), pe)] } ∧ Keep L OwnM H H' ∧ LSame H L (labC L c ca wd idd pe sd wtd) := by
  have kp : Keep L (fun y => y = .clients ∨ y = .peers) H H' := fun a o e n => fr a o e (fun z => n _ (by rw [z]; exact h.lc) (.inl rfl)) (fun z => n _ (by rw [z]; exact h.lp) (.inr rfl))
  have ls : LSame H L (labC L c ca wd idd pe sd wtd) := fun a o e => by
    unfold labC
    rw [if_neg (ne_of_none e f1), if_neg (ne_of_none e f2), if_neg (ne_of_none e f3), if_neg (ne_of_none e f4), if_neg (ne_of_none e f5), if_neg (ne_of_none e f6)]
  simp only [List.nodup_cons, List.mem_cons, List.not_mem_nil, not_or, not_false_eq_true, or_false, List.nodup_nil, and_true] at nd
  obtain ⟨⟨n1, n2, n3, n4, n5⟩, ⟨n6, n7, n8, n9⟩, ⟨n10, n11, n12⟩, ⟨n13, n14⟩, n15⟩ := nd
  have e1 : labC L c ca wd idd pe sd wtd ca = some (.cl c) := by unfold labC; rw [if_pos rfl]
  have e2 : labC L c ca wd idd pe sd wtd wd = some (.clW c) := by unfold labC; rw [if_neg (Ne.symm n1), if_pos rfl]
  have e3 : labC L c ca wd idd pe sd wtd idd = some (.clI c) := by unfold labC; rw [if_neg (Ne.symm n2), if_neg (Ne.symm n6), if_pos rfl]
  have e4 : labC L c ca wd idd pe sd wtd pe = some (.pe c) := by unfold labC; rw [if_neg (Ne.symm n3), if_neg (Ne.symm n7), if_neg (Ne.symm n10), if_pos rfl]
  have e5 : labC L c ca wd idd pe sd wtd sd = some (.peS c) := by unfold labC; rw [if_neg (Ne.symm n4), if_neg (Ne.symm n8), if_neg (Ne.symm n11), if_neg (Ne.symm n13), if_pos rfl]
  have e6 : labC L c ca wd idd pe sd wtd wtd = some (.peW c) := by unfold labC; rw [if_neg (Ne.symm n5), if_neg (Ne.symm n9), if_neg (Ne.symm n12), if_neg (Ne.symm n14), if_neg (Ne.symm n15), if_pos rfl]
  refine ⟨⟨by rw [ls _ _ h.h0]; exact h.l0, by rw [ls _ _ h.hw]; exact h.lw, by rw [ls _ _ h.hk]; exact h.lk, by rw [ls _ _ h.hc]; exact h.lc, by rw [ls _ _ h.hp]; exact h.lp, by rw [ls _ _ h.hl]; exact h.ll,
    kp.of h.h0 h.l0 (by simp), kp.of h.hw h.lw (by simp), h.rw, kp.of h.hk h.lk (by simp), h.rk.keep kp ls, hc, ?_, hp, ?_, kp.of h.hl h.ll (by simp), Paired.mapP h.rl fun p q c => c.keep kp ls, fun a n z => ?_⟩, fun a o e n => kp a o e fun y hy hm => n y hy (by intro z; rw [z] at hm; simp at hm), ls⟩
  · exact Paired.snoc (Paired.mapP h.rc fun p q c => c.keep kp ls (by simp) (by simp) (by simp)) ⟨dc, wd, idd, [], [], .non, rfl, e1, e2, e3, h1, h2, .nil, h3, .nil, rfl⟩
  · exact Paired.snoc (Paired.mapP h.rp fun p q c => c.keep kp ls (by simp) (by simp) (by simp)) ⟨dp, sd, wtd, [], [], [], rfl, e4, e5, e6, h4, h5, .nil, h6, .nil, .refl _⟩
  · by_cases z1 : a = ca
    · rw [z1, h1] at z; cases z
    by_cases z2 : a = wd
    · rw [z2, h2] at z; cases z
    by_cases z3 : a = idd
    · rw [z3, h3] at z; cases z
    by_cases z4 : a = pe
    · rw [z4, h4] at z; cases z
    by_cases z5 : a = sd
    · rw [z5, h5] at z; cases z
    by_cases z6 : a = wtd
    · rw [z6, h6] at z; cases z
    have el : L a ≠ none := by
      unfold labC at n
      rw [if_neg z1, if_neg z2, if_neg z3, if_neg z4, if_neg z5, if_neg z6] at n
      exact n
    cases q : H a with
    | none => exact h.lin a el q
    | some o =>
      by_cases y1 : a = A.cd
      · rw [y1, hc] at z; cases z
      by_cases y2 : a = A.pd
      · rw [y2, hp] at z; cases z
      rw [fr a o q y1 y2] at z; cases z
theorem ansH_or {t u : TT} {σ : L2.St} {H : Hp} {b : Bool} {P : Hp → Prop} (h1 : Ans t σ H false) (h2 : AnsH u σ H b P) : AnsH (tOr t u) σ H b P := fun Q q => h1 _ (iteF (h2 _ q))
theorem ok_make_client (T : Txt K mg Z) : DefOk P w K mg base 5 "make_client" ["net", "number", "body"] (fun vs H Q E => ∃ c b : Int, spCall Z (.client c b) [.int c, .int b] vs H Q E) := by
  refine T.f_make_client.ok sc_make_client (fun vs H Q E h => ?_) (fun f cdv A outer s H vs Q E hr h => ⟨_, (pss_cons (ps_if (pt_not (PW.pt (pw_and (pt_chain op_le op_le pe_int (pv 1) (pe_gc T.c_GREATEST_CLIENT)) (pw_and1 (pt_val (pe_def (ok_is_body_number T) hr (pa_cons (pv 2) pa_nil))))))) (pss_one (ps_ret (pe_lst (pa_cons (pe_gc T.c_OUT_OF_RANGE) pa_nil)))) pss_nil)
      (pss_cons (ps_if (PW.pt (pw_or (pt_cmp (pc_din (hu_of hr) (pv 1) (pe_fld (pv 0) rfl))) (pw_or1 (pt_val (pe_m (ok_Net_body_is_taken T) T.cl_Net hr (pv 0) (pa_cons (pv 2) pa_nil)))))) (pss_one (ps_ret (pe_lst (pa_cons (pe_gc T.c_TAKEN) pa_nil)))) pss_nil)
      (pss_cons (ps_if (pt_not (pt_val (pe_def (ok_has_body T) hr (pa_cons (pe_fld (pv 0) rfl) (pa_cons (pv 2) pa_nil))))) (pss_one (ps_ret (pe_lst (pa_cons (pe_gc T.c_NO_SUCH) pa_nil)))) pss_nil)
      (pss_cons (ps_if (pt_val (pe_m0 (ok_Net_clients_full T) T.cl_Net hr (pv 0))) (pss_one (ps_ret (pe_lst (pa_cons (pe_gc T.c_FULL) pa_nil)))) pss_nil)
      (pss_cons (ps_expr (pe_m (ok_Net_add_client T) T.cl_Net hr (pv 0) (pa_cons (pv 1) (pa_cons (pv 2) pa_nil))))
      (pss_one (ps_ret (pe_lst (pa_cons pe_int pa_nil))))))))), ?_⟩)
  · obtain ⟨c, b, L, net, s, n, hist, rfl, _⟩ := h; rfl
  · obtain ⟨c, b, L, net, st, n, hist, rfl, ⟨A, sa⟩, iv, hn, q⟩ := h
    have q : Wants Z (.client c b) L H net st Q := q
    have h0 := sa.h0
    have e7 : Vbwsah.inside b 0 7 = (decide (0 ≤ b) && decide (b < 8)) := by
      unfold Vbwsah.inside
      congr 1
      exact decide_eq_decide.mpr (by omega)
    by_cases c1 : (inR 0 9 c && (decide (0 ≤ b) && decide (b < 8))) = true
    · obtain ⟨ca, cb⟩ := Bool.and_eq_true_iff.mp c1
      have hc9 : 0 ≤ c ∧ c ≤ 9 := by
        unfold inR at ca
        simp only [Bool.and_eq_true, decide_eq_true_eq] at ca
        exact ca
      have hb8 : 0 ≤ b ∧ b < 8 := by
        simp only [Bool.and_eq_true, decide_eq_true_eq] at cb
        exact cb
      have e1 : ¬ (Vbwsah.inside c 0 9 = false ∨ Vbwsah.inside b 0 7 = false) := by
        rw [e7, cb, ← inR_inside, ca]; decide
      refine st_seq (st_n (ans_not (ans_and2 (ans_test (ans_chainLe val_c (val_var rfl) val_c)) (ans_val (val_B1 (val_var rfl))))) (by rw [c1]; rfl) ?_)
      obtain ⟨k, rfl⟩ : ∃ k : Nat, c = (k : Int) := ⟨c.toNat, by omega⟩
      obtain ⟨bb, rfl⟩ : ∃ k : Nat, b = (k : Int) := ⟨b.toNat, by omega⟩
      have hlc : A.lc.length = st.clients.length := Paired.len sa.rc
      have h4 := iv.four
      have hlen := iv.lenC
      -- the bodies of the clients
      have hbs : Paired (fun p y => ∃ dc n lt wd im idd bo, H p.2 = some (oClient Z dc n y lt wd im idd bo)) A.lc (st.clients.map fun q => (q.2.body : Int)) := by
        have go : ∀ {l : List (Int × Addr)} {m : List (Nat × Client)}, Paired (ClAt Z L H) l m → Paired (fun p y => ∃ dc n lt wd im idd bo, H p.2 = some (oClient Z dc n y lt wd im idd bo)) l (m.map fun q => (q.2.body : Int)) := fun {l m} h => by
          induction h with
          | nil => exact .nil
          | cons r t ih =>
            obtain ⟨dx, wd, idd, lw, li, bo, cp⟩ := r
            exact .cons ⟨dx, _, _, wd, _, idd, _, cp.h1⟩ ih
        exact go sa.rc
      have eany : ((st.clients.map fun q => (q.2.body : Int)).any fun y => decide (y = (bb : Int))) = st.known.any fun k => k.2.body == bb := by
        have e2 : (st.clients.map fun q => (q.2.body : Int)) = st.known.map fun k => (k.2.body : Int) := by
          have := congrArg (List.map fun y : Nat × Nat => (y.2 : Int)) iv.same
          rw [List.map_map, List.map_map] at this
          exact this
        rw [e2, List.any_map]
        congr 1
        funext y
        show decide ((y.2.body : Int) = (bb : Int)) = (y.2.body == bb)
        rw [Bool.eq_iff_iff]
        simp
        omega
      have vtk : ∀ {σ : L2.St} {te tb : TE}, Val te σ H (.ref net) → Val tb σ H (.int (bb : Int)) → AnsH (tB (tMeth Z.Net "body_is_taken" (spBodyTaken Z) [] E0 te (tCons tb tNil))) σ H (st.known.any fun k => k.2.body == bb) (Same H) := fun {σ te tb} v1 v2 Q q => by
        refine v1 _ ⟨net, A.dx, _, rfl, h0, rfl, v2 _ ⟨net, A.dx, A.wa, A.kd, A.cd, A.pd, A.pl, _, _, _, A.lc, _, rfl, h0, sa.hc, by omega, hbs, fun H' sm => ⟨_, rfl, ?_⟩⟩⟩
        rw [eany]
        exact q H' sm
      have e3 : (Vbwsah.clientAt st k).isSome = (valV (encR A.lc) (ik (k : Int))).isSome := by
        unfold Vbwsah.clientAt
        rcases rows_split ClAt.nm sa.rc iv.numsC k with ⟨f1, n1⟩ | ⟨p, x, l1, l2, m1, m2, s1⟩
        · rw [f1, encR_none n1]; rfl
        · rw [s1.fnd, s1.val]; rfl
      have est : Vbwsah.step st (.client (k : Int) (bb : Int)) = if (valV (encR A.lc) (ik (k : Int))).isSome = true ∨ (st.known.any fun k => k.2.body == bb) = true then (st, [-3]) else if Vbwsah.isBody st.world bb = false then (st, [-1]) else if 4 ≤ st.clients.length then (st, [-4]) else ({ st with clients := st.clients ++ [(k, { body := bb })], known := st.known ++ [(k, { body := bb })] }, [0]) := by
        rw [Vbwsah.step, if_neg e1, ← e3]; rfl
      cases t1 : (valV (encR A.lc) (ik (k : Int))).isSome with
      | true =>
        rw [if_pos (.inl t1)] at est
        refine st_seq (st_yes (ans_or1 ((val_din (val_var rfl) (val_net (f := "clients") (val_var rfl) h0 T T.na_Net_clients lk_Net_clients) sa.hc).to t1)) ?_)
        exact st_retL (fun Q q => q) (by decide) fun p hp => q.same sa (xs := [-3]) est (Same.refl H) hp
      | false =>
        have aor := ansH_or (σ := [some (.ref net), some (.int (k : Int)), some (.int (bb : Int))]) ((val_din (ta := tVar 1) (tb := tFld K (tVar 0) "clients") (val_var rfl) (val_net (f := "clients") (val_var rfl) h0 T T.na_Net_clients lk_Net_clients) sa.hc).to t1) (vtk (te := tVar 0) (tb := tVar 2) (val_var rfl) (val_var rfl))
        cases t2 : st.known.any fun k => k.2.body == bb with
        | true =>
          rw [if_pos (.inr t2)] at est
          rw [t2] at aor
          refine st_seq (st_yesH aor fun H1 sm => ?_)
          exact st_retL (fun Q q => q) (by decide) fun p hp => q.same sa (xs := [-3]) est sm hp
        | false =>
          rw [if_neg (by rw [t1, t2]; simp)] at est
          rw [t2] at aor
          refine st_seq (st_noH aor fun H1 sm => ?_)
          have sb := sa.same sm
          have hb := has_eq sb.rw bb
          by_cases t3 : Vbwsah.isBody st.world bb = true
          · rw [if_neg (by rw [t3]; simp)] at est
            refine st_seq (st_n (ans_not (ans_val (val_has (b := (bb : Int)) (val_net (f := "world") (val_var rfl) sb.h0 T T.na_Net_world lk_Net_world) (val_var rfl) sb.hw))) (by rw [hb, t3]; rfl) ?_)
            have vfull : Val (tMeth Z.Net "clients_full" (spClientsFull Z) [] E0 (tVar 0) tNil) [some (.ref net), some (.int (k : Int)), some (.int (bb : Int))] H1 (.bl (decide (4 ≤ (encR A.lc).length))) := fun Q q => ⟨_, rfl, net, A.dx, _, rfl, sb.h0, rfl, net, A.dx, A.wa, A.kd, A.cd, A.pd, A.pl, _, _, _, rfl, sb.h0, sb.hc, q⟩
            by_cases t4 : 4 ≤ st.clients.length
            · rw [if_pos t4] at est
              refine st_seq (st_y (ans_val vfull) (decide_eq_true (by rw [encR_len]; omega)) ?_)
              exact st_retL (fun Q q => q) (by decide) fun p hp => q.same sa (xs := [-4]) est sm hp
            · rw [if_neg t4] at est
              refine st_seq (st_n (ans_val vfull) (decide_eq_false (by rw [encR_len]; omega)) ?_)
              have ncp : A.cd ≠ A.pd := lab_ne sa.lc sa.lp (by decide)
              have nc : ∀ y ∈ st.clients, y.1 ≠ k := fun y hy z => by
                unfold Vbwsah.clientAt at e3
                rw [t1] at e3
                cases f : (st.clients.find? fun x => x.1 == k) with
                | none =>
                  have := List.find?_eq_none.mp f y hy
                  simp [z] at this
                | some v => rw [f] at e3; cases e3
              have hlp : A.lp.length = st.known.length := Paired.len sa.rp
              refine ⟨_, rfl, net, A.dx, _, rfl, sb.h0, rfl, _, rfl, _, rfl, net, A.dx, A.wa, A.kd, A.cd, A.pd, A.pl, _, _, _, _, encR A.lc, encR A.lp, rfl, sb.h0, sb.hc, sb.hp, by rw [encR_len]; omega, by rw [encR_len]; omega, ncp, fun H2 ca dc wd idd pe dp sd wtd fr f1 f2 f3 f4 f5 f6 nd h1 h2 h3 h4 h5 h6 hc hp => ?_⟩
              refine ⟨by decide, fun r hr => ?_⟩
              have ec : putK (encR A.lc) (ik (k : Int)) (.ref ca) = encR (A.lc ++ [((k : Int), ca)]) := by
                rw [putK_new]
                · unfold encR; rw [List.map_append]; rfl
                · cases z : valV (encR A.lc) (ik (k : Int)) with
                  | none => rfl
                  | some v => rw [z] at t1; cases t1
              have ep : putK (encR A.lp) (ik (k : Int)) (.ref pe) = encR (A.lp ++ [((k : Int), pe)]) := by
                rw [putK_new]
                · unfold encR; rw [List.map_append]; rfl
                · refine encR_none fun p hp z => ?_
                  obtain ⟨y, hy, ry⟩ := Paired.memL sa.rp hp
                  have e1 := PeAt.nm _ _ ry
                  have : y.1 ∈ st.clients.map (·.1) := by rw [iv.fst]; exact List.mem_map.mpr ⟨y, hy, rfl⟩
                  obtain ⟨u, hu, eu⟩ := List.mem_map.mp this
                  exact nc u hu (by omega)
              rw [ec] at hc
              rw [ep] at hp
              obtain ⟨sc, kc, lc⟩ := sb.addCl fr f1 f2 f3 f4 f5 f6 nd h1 h2 h3 h4 h5 h6 hc hp nc
              have kk : Keep L OwnM H H2 := fun a o e n => kc a o (sm a o e) n
              have ll : LSame H L (labC L k ca wd idd pe sd wtd) := fun a o e => lc a o (sm a o e)
              refine q _ (labC L k ca wd idd pe sd wtd) r ?_ (fun a o e n => ?_) ll ?_ ?_
              · rw [est]; exact ⟨_, sc.same (Same.new hr)⟩
              · have := kk a o e n
                rw [upd_ne (ne_of_none this hr)]; exact this
              · cases e : H r with
                | none => rfl
                | some o =>
                  exfalso
                  cases l : L r with
                  | none => rw [kk.un e l] at hr; cases hr
                  | some y => exact sc.lin r (by rw [ll r o e, l]; simp) hr
              · rw [upd_same, est]; rfl
          · have t3 : Vbwsah.isBody st.world bb = false := by simpa using t3
            rw [if_pos t3] at est
            refine st_seq (st_y (ans_not (ans_val (val_has (b := (bb : Int)) (val_net (f := "world") (val_var rfl) sb.h0 T T.na_Net_world lk_Net_world) (val_var rfl) sb.hw))) (by rw [hb, t3]; rfl) ?_)
            exact st_retL (fun Q q => q) (by decide) fun p hp => q.same sa (xs := [-1]) est sm hp
    · have c1 : (inR 0 9 c && (decide (0 ≤ b) && decide (b < 8))) = false := by simpa using c1
      refine st_seq (st_y (ans_not (ans_and2 (ans_test (ans_chainLe val_c (val_var rfl) val_c)) (ans_val (val_B1 (val_var rfl))))) (by rw [c1]; rfl) ?_)
      refine st_retL (fun Q q => q) (by decide) fun p hp => q.same sa (xs := [-2]) ?_ (Same.refl H) hp
      rw [Vbwsah.step, if_pos]
      · rfl
      · rw [e7, ← inR_inside]
        exact Bool.and_eq_false_iff.mp c1
end MN
set_option Elab.async false
set_option maxRecDepth 100000
set_option maxHeartbeats 2000000
set_option linter.unusedVariables false
namespace MN
open PySem PySem.Spec PyProof.Rows L2
open Vbwsae (Change)
open Vbwsah (Input Numbered Known Client State Packet Ring)
variable {P : Program} {w : World} {K : PySem.W.Frag} {mg : Str → Option Value} {base : Heap} {Z : Cs}
theorem tickAll_snoc : ∀ (l : List (Nat × Known)) (t : Vbwsah.World) (k : Nat × Known), tickAll t (l ++ [k]) = ((tickOne (tickAll t l).1 k.2).1, (tickAll t l).2 ++ [(k.1, (tickOne (tickAll t l).1 k.2).2)])
  | [], t, k => rfl
  | a :: l, t, k => by
    rw [List.cons_append, tickAll, tickAll_snoc l]
    rfl
theorem tickAll_fst : ∀ (l : List (Nat × Known)) (t : Vbwsah.World), (tickAll t l).2.map (·.1) = l.map (·.1)
  | [], t => rfl
  | a :: l, t => by
    show a.1 :: (tickAll (tickOne t a.2).1 l).2.map (·.1) = _
    rw [tickAll_fst l]; rfl
theorem inputAt_perm {m l : List Numbered} (h : m.Perm l) (nd : (l.map (·.1)).Nodup) (k : Nat) : Vbwsah.inputAt m k = Vbwsah.inputAt l k := by
  have nd' : (m.map (·.1)).Nodup := (h.map _).nodup_iff.mpr nd
  cases e : Vbwsah.inputAt l k with
  | some i => exact (inputAt_iff nd').mpr (h.mem_iff.mpr ((inputAt_iff nd).mp e))
  | none =>
    cases e2 : Vbwsah.inputAt m k with
    | none => rfl
    | some i =>
      have := (inputAt_iff nd).mpr (h.mem_iff.mp ((inputAt_iff nd').mp e2))
      rw [e] at this; cases this
theorem following_perm {m l : List Numbered} (h : m.Perm l) (nd : (l.map (·.1)).Nodup) : ∀ n c, Vbwsah.following m n c = Vbwsah.following l n c
  | 0, c => rfl
  | n + 1, c => by
    rw [Vbwsah.following, Vbwsah.following, inputAt_perm h nd]
    cases Vbwsah.inputAt l (c + 1) with
    | none => rfl
    | some i => show i :: _ = i :: _; rw [following_perm h nd n]
section
variable {L : Lb} {H H' : Hp} {net : Addr} {s : State} {A : Ads}
/-- a peer's inputs are followed: the world and what waits -/
theorem StA.tickPe (h : StA Z L H net s A) {c : Nat} {p : Int × Addr} {x x' : Known} {l1 l2 : List (Int × Addr)} {m1 m2 : List (Nat × Known)} (sp : Split (PeAt Z L H) A.lp s.known c p x l1 l2 m1 m2) {dx sd wtd : Addr} {lss lw lw' : List (Int × Addr)} {m m' : List Numbered} (cp : PeP Z L H p (c, x) dx sd wtd lss lw m)
    {kvs' : List (Key × V)} {w' : Vbwsah.World} (fr : ∀ a o, H a = some o → a ≠ A.wa → a ≠ wtd → H' a = some o) (hw : H' A.wa = some (.dK kvs')) (rw' : RepW kvs' w') (hwt : H' wtd = some (.dK (encR lw'))) (e1 : x'.body = x.body) (e2 : x'.ack = x.ack) (e3 : x'.sent = x.sent) (r3 : InsR L H lw' m') (pm : m'.Perm x'.inputs) :
    StA Z L H' net { Vbwsah.setKnown s c x' with world := w' } { A with kw := kvs' } ∧ Keep L OwnM H H' := by
  have pwt : p.2 ≠ wtd := ne_of cp.h1 cp.h3 (fun z => nomatch z)
  have swt : sd ≠ wtd := lab_ne cp.l2 cp.l3 (by simp)
  have wwt : A.wa ≠ wtd := lab_ne h.lw cp.l3 (by simp)
  have kp : Keep L OwnM H (upd H wtd (.dK (encR lw'))) := fun a o e n => by
    rw [upd_ne (fun z => n _ (by rw [z]; exact cp.l3) (by nofun))]; exact e
  have ls := LSame.refl H L
  have s1 := (h.setPe sp (H' := upd H wtd (.dK (encR lw'))) (x' := x') cp (ls' := lss) (fun a o e _ _ z3 => by rw [upd_ne z3]; exact e) (by rw [upd_ne pwt, e1, e2]; exact cp.h1) (by rw [upd_ne swt]; exact cp.h2) (by rw [e3]; exact RingR.keep cp.r2 kp ls) upd_same (r3.keep kp ls) pm).1
  have s2 := s1.withWorld rw'
  refine ⟨s2.same fun a o e => ?_, fun a o e n => fr a o e (fun z => n .world (by rw [z]; exact h.lw) (by nofun)) (fun z => n (.peW c) (by rw [z]; exact cp.l3) (by nofun))⟩
  by_cases z1 : a = A.wa
  · rw [z1, upd_same] at e; rw [z1, hw]; exact e
  · rw [upd_ne z1] at e
    by_cases z2 : a = wtd
    · rw [z2, upd_same] at e; rw [z2, hwt]; exact e
    · rw [upd_ne z2] at e; exact fr a o e z1 z2
/-- the tick's end: the world is kept -/
theorem StA.kept (h : StA Z L H net s A) (pd : s.past.length ≤ 64) {d : Addr} (hd : H d = none) :
    StA Z L (upd (upd (upd H net (oNet Z A.dx A.wa ((s.tick : Int) + 1) A.kd A.cd A.pd A.pl (s.drift : Int))) d (.dK A.kw)) A.kd (.dK (encR (keepR 64 (A.lk ++ [((s.tick : Int) + 1, d)]))))) net { s with tick := s.tick + 1, past := Vbwsah.keepPast s.past (s.tick + 1) s.world } { A with lk := keepR 64 (A.lk ++ [((s.tick : Int) + 1, d)]) } ∧
    Keep L OwnM H (upd (upd (upd H net (oNet Z A.dx A.wa ((s.tick : Int) + 1) A.kd A.cd A.pd A.pl (s.drift : Int))) d (.dK A.kw)) A.kd (.dK (encR (keepR 64 (A.lk ++ [((s.tick : Int) + 1, d)]))))) := by
  have nd : d ≠ net := ne_of_none' h.h0 hd
  have nkd : A.kd ≠ d := Ne.symm (ne_of_none' h.hk hd)
  have nnk : net ≠ A.kd := lab_ne h.l0 h.lk (by decide)
  have fr : ∀ a o, H a = some o → a ≠ net → a ≠ A.kd → upd (upd (upd H net (oNet Z A.dx A.wa ((s.tick : Int) + 1) A.kd A.cd A.pd A.pl (s.drift : Int))) d (.dK A.kw)) A.kd (.dK (encR (keepR 64 (A.lk ++ [((s.tick : Int) + 1, d)])))) a = some o := fun a o e z1 z2 => by
    rw [upd_ne z2, upd_ne (ne_of_none e hd), upd_ne z1]; exact e
  have e1 : upd (upd (upd H net (oNet Z A.dx A.wa ((s.tick : Int) + 1) A.kd A.cd A.pd A.pl (s.drift : Int))) d (.dK A.kw)) A.kd (.dK (encR (keepR 64 (A.lk ++ [((s.tick : Int) + 1, d)])))) net = some (oNet Z A.dx A.wa ((s.tick : Int) + 1) A.kd A.cd A.pd A.pl (s.drift : Int)) := by
    rw [upd_ne nnk, upd_ne (Ne.symm nd), upd_same]
  have e2 : upd (upd (upd H net (oNet Z A.dx A.wa ((s.tick : Int) + 1) A.kd A.cd A.pd A.pl (s.drift : Int))) d (.dK A.kw)) A.kd (.dK (encR (keepR 64 (A.lk ++ [((s.tick : Int) + 1, d)])))) d = some (.dK A.kw) := by
    rw [upd_ne (Ne.symm nkd), upd_same]
  have e3 : upd (upd (upd H net (oNet Z A.dx A.wa ((s.tick : Int) + 1) A.kd A.cd A.pd A.pl (s.drift : Int))) d (.dK A.kw)) A.kd (.dK (encR (keepR 64 (A.lk ++ [((s.tick : Int) + 1, d)])))) A.kd = some (.dK (encR (keepR 64 (A.lk ++ [((s.tick : Int) + 1, d)])))) := upd_same
  generalize upd (upd (upd H net (oNet Z A.dx A.wa ((s.tick : Int) + 1) A.kd A.cd A.pd A.pl (s.drift : Int))) d (.dK A.kw)) A.kd (.dK (encR (keepR 64 (A.lk ++ [((s.tick : Int) + 1, d)])))) = H' at fr e1 e2 e3 ⊢
  have kp : Keep L (fun y => y = .net ∨ y = .kept) H H' := fun a o e n => fr a o e (fun z => n .net (by rw [z]; exact h.l0) (.inl rfl)) (fun z => n .kept (by rw [z]; exact h.lk) (.inr rfl))
  have ls := LSame.refl H L
  refine ⟨⟨h.l0, h.lw, h.lk, h.lc, h.lp, h.ll, e1, kp.of h.hw h.lw (by simp), h.rw, e3, ?_, kp.of h.hc h.lc (by simp), Paired.mapP h.rc fun p q c => c.keep kp ls (by simp) (by simp) (by simp), kp.of h.hp h.lp (by simp), Paired.mapP h.rp fun p q c => c.keep kp ls (by simp) (by simp) (by simp), kp.of h.hl h.ll (by simp),
    Paired.mapP h.rl fun p q c => c.keep kp ls, fun a n z => ?_⟩, fun a o e n => kp a o e fun y hy hm => n y hy (by intro z; rw [z] at hm; simp at hm)⟩
  · have := (RingR.keep h.rk kp ls).more (m := 64) (by omega) pd (t := s.tick + 1) (a := d) (v := s.world) (h.fresh hd) ⟨A.kw, e2, h.rw⟩
    exact this
  · cases q : H a with
    | none => exact h.lin a n q
    | some o =>
      by_cases z1 : a = net
      · rw [z1, e1] at z; cases z
      by_cases z2 : a = A.kd
      · rw [z2, e3] at z; cases z
      rw [fr a o q z1 z2] at z; cases z
end
end MN
set_option Elab.async false
set_option maxRecDepth 100000
set_option maxHeartbeats 2000000
set_option linter.unusedVariables false
namespace MN
open PySem PySem.Spec PyProof.Rows L2
open Vbwsae (Change)
open Vbwsah (Input Numbered Known Client State Packet Ring)
variable {P : Program} {w : World} {K : PySem.W.Frag} {mg : Str → Option Value} {base : Heap} {Z : Cs}
theorem nodup_split {α : Type} {M1 M2 : List (Nat × α)} {c : Nat} {k : α} (nd : ((M1 ++ (c, k) :: M2).map (·.1)).Nodup) : (∀ y ∈ M1, y.1 ≠ c) ∧ ∀ y ∈ M2, y.1 ≠ c := by
  rw [List.map_append, List.map_cons, List.nodup_append] at nd
  obtain ⟨_, n2, n3⟩ := nd
  refine ⟨fun y hy z => ?_, fun y hy z => ?_⟩
  · exact n3 y.1 (List.mem_map.mpr ⟨y, hy, rfl⟩) c List.mem_cons_self z
  · exact (List.nodup_cons.mp n2).1 (List.mem_map.mpr ⟨y, hy, z⟩)
/-- the state behind the first i peers' inputs -/
def tickSt (s : State) (i : Nat) : State := { s with world := (tickAll s.world (s.known.take i)).1, known := (tickAll s.world (s.known.take i)).2 ++ s.known.drop i }
theorem tickSt_zero (s : State) : tickSt s 0 = s := by
  unfold tickSt
  rw [List.take_zero, List.drop_zero]; rfl
theorem tickSt_nums (s : State) (i : Nat) : (tickSt s i).known.map (·.1) = s.known.map (·.1) := by
  unfold tickSt
  show ((tickAll s.world (s.known.take i)).2 ++ s.known.drop i).map (·.1) = _
  rw [List.map_append, tickAll_fst, ← List.map_append, List.take_append_drop]
theorem tickSt_succ {s : State} {i : Nat} {c : Nat} {k : Known} (h : s.known[i]? = some (c, k)) (nd : (s.known.map (·.1)).Nodup) : tickSt s (i + 1) = { Vbwsah.setKnown (tickSt s i) c (tickOne (tickSt s i).world k).2 with world := (tickOne (tickSt s i).world k).1 } := by
  have e1 := take_snoc h
  have e2 : s.known.drop i = (c, k) :: s.known.drop (i + 1) := by
    obtain ⟨hi, e⟩ := List.getElem?_eq_some_iff.mp h
    rw [List.drop_eq_getElem_cons hi, e]
  have nd' := nd
  rw [← tickSt_nums s i] at nd'
  unfold tickSt at nd' ⊢
  rw [e1, tickAll_snoc]
  dsimp only at nd' ⊢
  rw [e2] at nd' ⊢
  obtain ⟨n1, n2⟩ := nodup_split nd'
  unfold Vbwsah.setKnown
  dsimp only
  rw [List.map_append, List.map_cons, map_other n1, map_other n2, if_pos rfl, List.append_assoc]
  rfl
theorem tickSt_all (s : State) : { tickSt s s.known.length with tick := s.tick + 1, past := Vbwsah.keepPast s.past (s.tick + 1) (tickSt s s.known.length).world } = Vbwsah.ticked s := by
  rw [ticked_eq]
  unfold tickSt
  rw [List.take_length, List.drop_length, List.append_nil]
def spAdvance (Z : Cs) : Sp := fun vs H Q _ => ∃ (L : Lb) (net : Addr) (s : State) (n : Nat) (hist : Nat → Vbwsah.World) (A : Ads), vs = [.ref net] ∧ StA Z L H net s A ∧ HInv n s hist ∧ n ≤ 300 ∧
  ∀ H' A', StA Z L H' net (Vbwsah.ticked s) A' → A'.pd = A.pd → A'.lp = A.lp → Keep L OwnM H H' → Q .non H'
theorem ok_Net_advance (T : Txt K mg Z) : MethOk P w K mg base Z.Net 4 "advance" ["self"] (spAdvance Z) := by
  refine T.f_Net_advance.ok sc_Net_advance (fun vs H Q E h => ?_) (fun f cdv A outer s H vs Q E hr h => ⟨_, (pss_cons (ps_lock (ps_for PassesOwn.never rfl (pi_values (pe_fld (pv 0) rfl)) (pg_name (i := 1) sc_Net_advance.nd rfl (Or.inl rfl)) (pss_one (ps_expr (pe_m (ok_Peer_follow_waiting T) T.cl_Peer hr (pv 1) (pa_cons (pe_fld (pv 0) rfl) pa_nil))))))
      (pss_cons (ps_fldaug (pv 0) pe_int in_add)
      (pss_one (ps_expr (pe_def (ok_keep_world T) hr (pa_cons (pe_fld (pv 0) rfl) (pa_cons (pe_fld (pv 0) rfl) (pa_cons (pe_callTy call_dictD (by rfl) T.n_dict (by decide +kernel) (pa_cons (pe_fld (pv 0) rfl) pa_nil)) (pa_cons (pe_gc T.c_MOST_KEPT) pa_nil))))))))), ?_⟩)
  · obtain ⟨L, net, s, n, hist, A, rfl, _⟩ := h; rfl
  · obtain ⟨L, net, st, n, hist, A, rfl, sa, iv, hn, q⟩ := h
    have h0 := sa.h0
    have hlp : A.lp.length = st.known.length := Paired.len sa.rp
    have npd : net ≠ A.pd := lab_ne sa.l0 sa.lp (by decide)
    have wpd : A.wa ≠ A.pd := lab_ne sa.lw sa.lp (by decide)
    refine ⟨A.pd, .dK (encR A.lp), sa.hp, trivial, fun od => ?_⟩
    refine ⟨_, rfl, net, Z.Net, A.dx, _, _, rfl, by rw [upd_ne npd]; exact h0, T.cl_Net, T.na_Net_peers, lk_Net_peers, A.pd, od, encR A.lp, rfl, upd_same, ?_⟩
    refine for_it walk_values (fun i σ H' => ∃ (v1 : Option V) (kw : List (Key × V)), σ = [some (.ref net), v1] ∧ H' A.pd = some (.frz od (.dK (encR A.lp))) ∧ StA Z L (upd H' A.pd (.dK (encR A.lp))) net (tickSt st i) { A with kw := kw } ∧ Keep L OwnM H (upd H' A.pd (.dK (encR A.lp)))) ⟨none, A.kw, rfl, upd_same, ?_, ?_⟩ (fun i σ H' _ ⟨_, _, _, h, _⟩ => h) ?_ ?_
    · rw [tickSt_zero, upd_upd]
      refine sa.same fun a o e => ?_
      by_cases z : a = A.pd
      · rw [z, upd_same]; rw [z, sa.hp] at e; exact e
      · rw [upd_ne z]; exact e
    · intro a o e n
      rw [upd_upd]
      by_cases z : a = A.pd
      · exact absurd (show OwnM _ from by nofun) (n .peers (by rw [z]; exact sa.lp))
      · rw [upd_ne z]; exact e
    · rintro i x σ H0 H' hi ⟨v1, kw, rfl, hz, sb, kb⟩ ⟨rfl, kk, hk⟩
      have hil : i < A.lp.length := by rw [encR_len] at hi; exact hi
      have hge : (encR A.lp)[i]? = some (ik A.lp[i].1, .ref A.lp[i].2) := by
        unfold encR
        rw [List.getElem?_map, List.getElem?_eq_getElem hil]; rfl
      rw [hge] at hk
      have ex : V.ref A.lp[i].2 = x := congrArg Prod.snd (Option.some.inj hk)
      subst ex
      obtain ⟨⟨c, k⟩, hck, pe0⟩ := Paired.at sa.rp (List.getElem?_eq_getElem hil)
      have ec : A.lp[i].1 = (c : Int) := PeAt.nm _ _ pe0
      have hmk : (c, k) ∈ st.known := List.mem_of_getElem? hck
      have hmt : (c, k) ∈ (tickSt st i).known := by
        obtain ⟨hi2, e⟩ := List.getElem?_eq_some_iff.mp hck
        unfold tickSt
        refine List.mem_append.mpr (.inr ?_)
        rw [List.drop_eq_getElem_cons hi2, e]
        exact List.mem_cons_self
      have ndt : ((tickSt st i).known.map (·.1)).Nodup := by rw [tickSt_nums]; exact iv.nums
      rcases rows_split PeAt.nm sb.rp ndt c with ⟨f1, n1⟩ | ⟨p, k', l1, l2, m1, m2, s1⟩
      · exfalso
        have := List.find?_eq_none.mp f1 _ hmt
        simp at this
      have ek : k' = k := by
        have h1 := mem_find ndt s1.mem
        have h2 := mem_find ndt hmt
        rw [h1] at h2
        exact Option.some.inj h2
      subst ek
      have ndl : (A.lp.map (·.1)).Nodup := by
        have e : A.lp.map (·.1) = st.known.map fun q => (q.1 : Int) := by
          have go : ∀ {l : List (Int × Addr)} {m : List (Nat × Known)}, Paired (PeAt Z L H) l m → l.map (·.1) = m.map fun q => (q.1 : Int) := fun {l m} h => by
            induction h with
            | nil => rfl
            | cons r t ih => rw [List.map_cons, List.map_cons, ih, PeAt.nm _ _ r]
          exact go sa.rp
        rw [e, show (st.known.map fun q => (q.1 : Int)) = (st.known.map (·.1)).map fun (n : Nat) => (n : Int) by rw [List.map_map]; rfl]
        exact List.Pairwise.map _ (fun a b h => by omega) iv.nums
      have ep : p.2 = A.lp[i].2 := by
        have h1 := s1.val
        have h2 := encR_val ndl (List.getElem_mem hil)
        rw [ec] at h2
        have h3 : some (V.ref p.2) = some (V.ref A.lp[i].2) := by rw [← h1, ← h2]
        exact V.ref.inj (Option.some.inj h3)
      rw [← ep]
      obtain ⟨dx, sd, wtd, ls, lw, m, cp⟩ := s1.r
      have hc : ∃ x, (c, x) ∈ st.clients := by
        have : c ∈ st.clients.map (·.1) := by rw [iv.fst]; exact List.mem_map.mpr ⟨_, hmk, rfl⟩
        obtain ⟨y, hy, ey⟩ := List.mem_map.mp this
        exact ⟨y.2, by rw [← ey]; exact hy⟩
      obtain ⟨x, hx⟩ := hc
      obtain ⟨all, recv, per⟩ := iv.per _ _ _ hmk hx
      obtain ⟨h8, hbd⟩ := iv.body _ hmk
      have h8 : k'.body < 8 := h8
      have cnt4 : ∀ q ∈ st.known, q.2.body < 8 ∧ Vbwsah.isBody st.world q.2.body = true ∧ Vbwsah.countOf st.world q.2.body ≤ 4 * st.tick := fun q hq => by
        obtain ⟨h8, hb⟩ := iv.body q hq
        refine ⟨h8, hb, ?_⟩
        obtain ⟨x, y, u, v, m, ex, ey, eu, ev, en, hx, hy, hu, hv, hn'⟩ := iv.world.has h8 hb
        have : Vbwsah.countOf st.world q.2.body = m.toNat := by
          unfold Vbwsah.countOf Vbwsah.at_ Vbwsah.countKey
          rw [en]; rfl
        rw [this]; omega
      obtain ⟨gt, bt, ct, _, _⟩ := tickAll_good (c := st.tick) (st.known.take i) st.world (iv.world.mono (Nat.le_succ _)) (fun q hq => cnt4 q (List.mem_of_mem_take hq)) ((List.map_take (f := fun k : Nat × Known => k.2.body) ▸ iv.bods.sublist (List.take_sublist _ _)))
      have hother : ∀ q ∈ st.known.take i, q.2.body ≠ k'.body := fun q hq z => by
        have hb := iv.bods
        obtain ⟨hi2, e⟩ := List.getElem?_eq_some_iff.mp hck
        have es : st.known = st.known.take i ++ (c, k') :: st.known.drop (i + 1) := by
          rw [← e, ← List.drop_eq_getElem_cons hi2, List.take_append_drop]
        rw [es, List.map_append, List.nodup_append] at hb
        exact hb.2.2 q.2.body (List.mem_map.mpr ⟨q, hq, rfl⟩) k'.body (by simp) z
      have gt : GoodW (st.tick + 1) (tickSt st i).world := gt
      have bt : Vbwsah.isBody (tickSt st i).world k'.body = true := (bt _ h8).trans hbd
      have ct : Vbwsah.countOf (tickSt st i).world k'.body = Vbwsah.countOf st.world k'.body := ct _ h8 hother
      have kind : (k'.inputs.map (·.1)).Nodup := per.kin.imp fun {x y} (h : x < y) => by omega
      have pmm : m.Perm k'.inputs := cp.pm
      have mnd : (m.map (·.1)).Nodup := (pmm.map _).nodup_iff.mpr kind
      have ppd : p.2 ≠ A.pd := lab_ne cp.l1 sb.lp (by simp)
      have wtp : wtd ≠ A.pd := lab_ne cp.l3 sb.lp (by simp)
      have wwt : A.wa ≠ wtd := lab_ne sb.lw cp.l3 (by simp)
      have u1 : H' p.2 = some (oPeer Z dx (c : Int) (k'.body : Int) (k'.ack : Int) sd wtd) := by have := cp.h1; rw [upd_ne ppd] at this; exact this
      have u3 : H' wtd = some (.dK (encR lw)) := by have := cp.h3; rw [upd_ne wtp] at this; exact this
      have u4 : H' A.wa = some (.dK kw) := by have := sb.hw; rw [upd_ne wpd] at this; exact this
      have u0 : H' net = some (oNet Z A.dx A.wa (st.tick : Int) A.kd A.cd A.pd A.pl (st.drift : Int)) := by have := sb.h0; rw [upd_ne npd] at this; exact this
      have u5 : InRel H' lw m := Paired.mapP cp.r3 fun y z r => by
        obtain ⟨r1, r2, r3⟩ := r
        rw [upd_ne (un_ne r2 sb.lp)] at r3
        exact ⟨r1, r3⟩
      refine ⟨_, rfl, p.2, dx, _, rfl, u1, rfl, _, rfl, net, Z.Net, A.dx, _, _, rfl, u0, T.cl_Net, T.na_Net_world, lk_Net_world, p.2, dx, sd, wtd, A.wa, _, _, k'.body, st.tick + 1, kw, (tickSt st i).world, lw, m, rfl, u1, u3, u4, wwt, sb.rw, gt, h8, bt, mnd, fun y hy => ?_, u5, fun H3 kvs' fr hw' rk hwt => ?_⟩
      · rw [ct]
        exact (per.kinB y (pmm.mem_iff.mp hy)).1
      · rw [following_perm pmm kind] at rk hwt
        have rk : RepW kvs' (tickOne (tickSt st i).world k').1 := rk
        have fr' : ∀ a o, upd H' A.pd (.dK (encR A.lp)) a = some o → a ≠ A.wa → a ≠ wtd → upd H3 A.pd (.dK (encR A.lp)) a = some o := fun a o e z1 z2 => by
          by_cases z : a = A.pd
          · rw [z, upd_same] at e ⊢; exact e
          · rw [upd_ne z] at e ⊢; exact fr a o e z1 z2
        have ri := filter_ins cp.r3 (f := fun z => decide ((Vbwsah.countOf (tickOne (tickSt st i).world k').1 k'.body : Int) < z)) (g := fun z => decide (Vbwsah.countOf (tickOne (tickSt st i).world k').1 k'.body < z)) (fun y hy => decide_eq_decide.mpr (by omega))
        have tk := sb.tickPe s1 (H' := upd H3 A.pd (.dK (encR A.lp))) (x' := (tickOne (tickSt st i).world k').2) cp fr' (by rw [upd_ne wpd]; exact hw') rk (by rw [upd_ne wtp]; exact hwt) rfl rfl rfl ri (pmm.filter _)
        rw [← tickSt_succ hck iv.nums] at tk
        refine ⟨_, kvs', rfl, ?_, tk.1, fun a o e n => tk.2 a o (kb a o e n) n⟩
        exact fr _ _ hz (Ne.symm wpd) (Ne.symm wtp)
    · rintro σ H' ⟨v1, kw, rfl, hz, sb, kb⟩
      refine ⟨hz, ?_⟩
      have el : (encR A.lp).length = st.known.length := by rw [encR_len]; exact hlp
      rw [el] at sb
      generalize upd H' A.pd (.dK (encR A.lp)) = H1 at sb kb ⊢
      have g0 := sb.h0
      refine ⟨_, rfl, net, Z.Net, A.dx, _, _, rfl, g0, T.cl_Net, T.na_Net_tick, lk_Net_tick, _, _, rfl, rfl, A.dx, _, g0, (by show 7 < 1000; decide), ?_⟩
      rw [pf_Net_tick]
      have nk : net ≠ A.kd := lab_ne sa.l0 sa.lk (by decide)
      have nw : net ≠ A.wa := lab_ne sa.l0 sa.lw (by decide)
      refine ⟨_, rfl, net, Z.Net, A.dx, _, _, rfl, upd_same, T.cl_Net, T.na_Net_kept, lk_Net_kept, _, rfl, net, Z.Net, A.dx, _, _, rfl, upd_same, T.cl_Net, T.na_Net_tick, lk_Net_tick, _, rfl, net, Z.Net, A.dx, _, _, rfl, upd_same, T.cl_Net, T.na_Net_world, lk_Net_world, A.wa, kw, rfl, .inl (by rw [upd_ne (Ne.symm nw)]; exact sb.hw), fun d hd => ?_⟩
      have dn : net ≠ d := ne_of_none upd_same hd
      have hd0 : H1 d = none := by rw [upd_ne (Ne.symm dn)] at hd; exact hd
      have dk : A.kd ≠ d := ne_of_none sb.hk hd0
      have pl : st.past.length ≤ 64 := by rw [iv.past, List.length_map, List.length_range]; omega
      have hlt : ∀ p ∈ A.lk, p.1 < (st.tick : Int) + 1 := sb.rk.lt (t := st.tick + 1) fun y hy => by
        have hy : y ∈ st.past := hy
        rw [iv.past] at hy
        obtain ⟨j, _, rfl⟩ := List.mem_map.mp hy
        show st.tick - j < st.tick + 1
        omega
      have lkl : A.lk.length = st.past.length := sb.rk.len
      refine ⟨A.kd, d, encR A.lk, A.lk ++ [((st.tick : Int) + 1, d)], (st.tick : Int) + 1, 64, rfl, by rw [upd_ne dk, upd_ne (Ne.symm nk)]; exact sb.hk, by rw [encR_len]; omega, putK_encR hlt, by simp, snoc_sorted (sb.rk.sorted (show ((tickSt st st.known.length).past.map (·.1)).Pairwise (· > ·) from past_desc (s := st) iv)) hlt, ?_⟩
      obtain ⟨sc, kc⟩ := sb.kept pl hd0
      rw [← tickSt_all] at q
      exact q _ _ sc rfl rfl fun a o e n => kc a o (kb a o e n) n
end MN
set_option Elab.async false
set_option maxRecDepth 100000
set_option maxHeartbeats 2000000
set_option linter.unusedVariables false
namespace MN
open PySem PySem.Spec PyProof.Rows L2
open Vbwsae (Change)
open Vbwsah (Input Numbered Known Client State Packet Ring)
variable {P : Program} {w : World} {K : PySem.W.Frag} {mg : Str → Option Value} {base : Heap} {Z : Cs}
/-- what a tick tells of the first i clients -/
def tickRow (s : State) (i : Nat) : List Int := (s.known.take i).flatMap fun k => [(k.1 : Int), (Vbwsah.countOf s.world k.2.body : Int), (k.2.inputs.length : Int)]
theorem tickRow_succ {s : State} {i : Nat} {c : Nat} {k : Known} (h : s.known[i]? = some (c, k)) : tickRow s (i + 1) = tickRow s i ++ [(c : Int), (Vbwsah.countOf s.world k.body : Int), (k.inputs.length : Int)] := by
  unfold tickRow
  rw [take_snoc h, List.flatMap_append]; rfl
theorem tickRow_len (s : State) (i : Nat) : (tickRow s i).length ≤ 3 * s.known.length := by
  unfold tickRow
  rw [List.length_flatMap]
  have : ∀ l : List (Nat × Known), ((l.map fun k => [(k.1 : Int), (Vbwsah.countOf s.world k.2.body : Int), (k.2.inputs.length : Int)].length)).sum = 3 * l.length := fun l => by
    induction l with
    | nil => rfl
    | cons a l ih => rw [List.map_cons, List.sum_cons, ih, List.length_cons]; show 3 + 3 * l.length = 3 * (l.length + 1); omega
  rw [this, List.length_take]; omega
theorem world_count {kw : List (Key × V)} {t : Vbwsah.World} (r : RepW kw t) {cc b : Nat} (g : GoodW cc t) (h8 : b < 8) (hbd : Vbwsah.isBody t b = true) : valV kw (ik (1000 + (b : Int))) = some (.int (Vbwsah.countOf t b : Int)) := by
  have hco := countOf_at g h8 hbd
  rw [show 1000 + (b : Int) = ((1000 + b : Nat) : Int) by omega, r.get]
  unfold Vbwsah.isBody Vbwsah.countKey at hbd
  obtain ⟨v, ev⟩ := Option.isSome_iff_exists.mp hbd
  have ev : Vbwsae.get t (1000 + b) = some v := ev
  have hco : (Vbwsah.countOf t b : Int) = Vbwsah.at_ t (1000 + b) := hco
  rw [hco, ev]
  unfold Vbwsah.at_
  rw [ev]; rfl
theorem ok_run_tick (T : Txt K mg Z) : DefOk P w K mg base 5 "run_tick" ["net"] (spCall Z .tick []) := by
  refine T.f_run_tick.ok sc_run_tick (fun vs H Q E h => ?_) (fun f cdv A outer s H vs Q E hr h => ⟨_, (pss_cons (ps_if (pt_cmpR op_ge (pe_fld (pv 0) rfl) (pe_gc T.c_GREATEST_TICK) (nomark _)) (pss_one (ps_ret (pe_lst (pa_cons (pe_gc T.c_LAST_TICK) pa_nil)))) pss_nil)
      (pss_cons (ps_expr (pe_m0 (ok_Net_advance T) T.cl_Net hr (pv 0)))
      (pss_cons (ps_set (i := 1) sc_run_tick.nd rfl (Or.inl rfl) (pe_lst (pa_cons pe_int (pa_cons (pe_fld (pv 0) rfl) pa_nil))))
      (pss_cons (ps_lock (ps_for PassesOwn.never rfl (pi_items (pe_fld (pv 0) rfl)) (pg_tup rfl (pgs_cons (pg_name (i := 2) sc_run_tick.nd rfl (Or.inl rfl)) (pgs_cons (pg_name (i := 3) sc_run_tick.nd rfl (Or.inl rfl)) pgs_nil))) (pss_one (ps_expr (pe_bm PySem.F.plainAttrs_list PySem.F.slot_list_extend PySem.F.type_list_extend mt_extend (pv 1) (pa_cons (pe_lst (pa_cons (pv 2) (pa_cons (pe_m (ok_Net_followed_by T) T.cl_Net hr (pv 0) (pa_cons (pv 2) pa_nil)) (pa_cons (pe_callB call_lenD (by rfl) T.n_len (by decide +kernel) (pa_cons (pe_fld (pv 3) rfl) pa_nil)) pa_nil)))) pa_nil))))))
      (pss_one (ps_ret (pv 1))))))), ?_⟩)
  · obtain ⟨L, net, s, n, hist, rfl, _⟩ := h; rfl
  · obtain ⟨L, net, st, n, hist, rfl, ⟨A, sa⟩, iv, hn, q⟩ := h
    have q : Wants Z .tick L H net st Q := q
    have h0 := sa.h0
    have ht := iv.tick
    have est : Vbwsah.step st .tick = (Vbwsah.ticked st, 0 :: ((Vbwsah.ticked st).tick : Int) :: tickRow (Vbwsah.ticked st) (Vbwsah.ticked st).known.length) := by
      rw [Vbwsah.step, if_neg (show ¬ Vbwsah.TICKS ≤ st.tick by unfold Vbwsah.TICKS; omega)]
      unfold tickRow
      rw [List.take_length]
    obtain ⟨hist', iv', _⟩ := inv_tick iv
    rw [est] at iv'
    have iv' : HInv (n + 1) (Vbwsah.ticked st) hist' := iv'
    refine st_seq (st_n (ans_cmp (b := decide ((10000 : Int) ≤ (st.tick : Int))) (val_net (f := "tick") (val_var rfl) h0 T T.na_Net_tick lk_Net_tick) val_c (fun Q q => ⟨_, _, rfl, rfl, q⟩)) (decide_eq_false (by omega)) ?_)
    refine ⟨_, rfl, net, A.dx, _, rfl, h0, rfl, L, net, st, n, hist, A, rfl, sa, iv, hn, fun H1 B sb eB1 eB2 kb => ?_⟩
    generalize hS : Vbwsah.ticked st = S at *
    have g0 := sb.h0
    refine ⟨_, rfl, net, Z.Net, B.dx, _, _, rfl, g0, T.cl_Net, T.na_Net_tick, lk_Net_tick, ?_⟩
    refine ⟨(by show 2 ≤ sizeLine; decide), fun C hC => ?_⟩
    have hlp : B.lp.length = S.known.length := Paired.len sb.rp
    have four := iv'.four
    have npd : net ≠ B.pd := lab_ne sb.l0 sb.lp (by decide)
    have wpd : B.wa ≠ B.pd := lab_ne sb.lw sb.lp (by decide)
    have s1 : Same H1 (upd H1 C (.lst [.int 0, .int (S.tick : Int)])) := Same.new hC
    have pC : B.pd ≠ C := ne_of_none sb.hp hC
    refine ⟨B.pd, .dK (encR B.lp), s1 _ _ sb.hp, trivial, fun od => ?_⟩
    refine ⟨_, rfl, net, Z.Net, B.dx, _, _, rfl, by rw [upd_ne npd]; exact s1 _ _ g0, T.cl_Net, T.na_Net_peers, lk_Net_peers, B.pd, od, encR B.lp, rfl, upd_same, ?_⟩
    refine for_it walk_items (fun i σ H' => ∃ v2 v3 : Option V, σ = [some (.ref net), some (.ref C), v2, v3] ∧ (∀ a o, H1 a = some o → a ≠ B.pd → H' a = some o) ∧ H' B.pd = some (.frz od (.dK (encR B.lp))) ∧ H' C = some (.lst (([0, (S.tick : Int)] ++ tickRow S i).map V.int))) ⟨none, none, rfl, fun a o e z => by rw [upd_ne z]; exact s1 _ _ e, upd_same, ?_⟩ (fun i σ H' _ ⟨_, _, _, _, h, _⟩ => h) ?_ ?_
    · rw [upd_ne (Ne.symm pC), upd_same]; rfl
    · rintro i x σ H' H2 hi ⟨v3, v4, rfl, fr, hz, hC'⟩ ⟨Tt, kx, vx, rfl, hT, rfl, ek, ev⟩
      have hlen : i < B.lp.length := by rw [encR_len] at hi; exact hi
      have hge : (encR B.lp)[i]? = some (ik B.lp[i].1, .ref B.lp[i].2) := by
        unfold encR
        rw [List.getElem?_map, List.getElem?_eq_getElem hlen]; rfl
      dsimp only at ek ev
      rw [hge] at ek ev
      have ek' : V.int B.lp[i].1 = kx := Option.some.inj ek
      have ev' : V.ref B.lp[i].2 = vx := Option.some.inj ev
      subst ek' ev'
      obtain ⟨⟨c, k⟩, hck, pe0⟩ := Paired.at sb.rp (List.getElem?_eq_getElem hlen)
      have hmk : (c, k) ∈ S.known := List.mem_of_getElem? hck
      obtain ⟨dx, sd, wtd, ls, lw, m, cp⟩ := pe0
      have ndl : (B.lp.map (·.1)).Nodup := by
        have e : B.lp.map (·.1) = S.known.map fun q => (q.1 : Int) := by
          have go : ∀ {l : List (Int × Addr)} {m : List (Nat × Known)}, Paired (PeAt Z L H1) l m → l.map (·.1) = m.map fun q => (q.1 : Int) := fun {l m} h => by
            induction h with
            | nil => rfl
            | cons r t ih => rw [List.map_cons, List.map_cons, ih, PeAt.nm _ _ r]
          exact go sb.rp
        rw [e, show (S.known.map fun q => (q.1 : Int)) = (S.known.map (·.1)).map fun (n : Nat) => (n : Int) by rw [List.map_map]; rfl]
        exact List.Pairwise.map _ (fun a b h => by omega) iv'.nums
      have hval := encR_val ndl (List.getElem_mem hlen)
      have ec : B.lp[i].1 = (c : Int) := cp.num
      generalize B.lp[i] = p at *
      obtain ⟨pn, pa⟩ := p
      have ec : pn = (c : Int) := ec
      subst ec
      have hval : valV (encR B.lp) (ik (c : Int)) = some (.ref pa) := hval
      obtain ⟨h8, hbd⟩ := iv'.body _ hmk
      have hcw := world_count sb.rw iv'.world h8 hbd
      have keepT : ∀ a o, H' a = some o → upd H' Tt (.tup [.int (c : Int), .ref pa]) a = some o := fun a o e => by rw [upd_ne (ne_of_none e hT)]; exact e
      have ppd : pa ≠ B.pd := lab_ne cp.l1 sb.lp (by simp)
      have wtp : wtd ≠ B.pd := lab_ne cp.l3 sb.lp (by simp)
      have u0 := keepT _ _ (fr _ _ g0 npd)
      have u1 := keepT _ _ (fr _ _ cp.h1 ppd)
      have u3 := keepT _ _ (fr _ _ cp.h3 wtp)
      have u4 := keepT _ _ (fr _ _ sb.hw wpd)
      have u5 := keepT _ _ hz
      have uC := keepT _ _ hC'
      refine ⟨Tt, _, rfl, SqT.of upd_same, rfl, _, _, rfl, _, _, rfl, rfl, ?_⟩
      have lwl : lw.length = k.inputs.length := (Paired.len cp.r3).trans cp.pm.length_eq
      refine ⟨_, rfl, .inl ⟨rfl, _, SqL.of uC⟩, _, rfl, _, rfl, net, B.dx, _, rfl, u0, rfl, _, rfl, net, B.dx, B.wa, B.kd, B.cd, B.pd, B.pl, pa, dx, sd, wtd, _, _, _, _, _, B.kw, encR B.lp, _, rfl, u0, .inr ⟨od, u5⟩, hval, u1, u4, hcw, ?_⟩
      refine ⟨_, rfl, pa, Z.Peer, dx, _, _, rfl, u1, T.cl_Peer, T.na_Peer_waiting, lk_Peer_waiting, wtd, _, rfl, u3, ?_⟩
      refine ⟨(by show 3 ≤ sizeLine; decide), fun D hD => ?_⟩
      have nDC : C ≠ D := ne_of_none uC hD
      have tl := tickRow_len S i
      refine ⟨C, D, _, _, rfl, rfl, by rw [upd_ne nDC]; exact uC, upd_same, ?_, ?_⟩
      · rw [List.length_map, List.length_append]
        exact Nat.le_of_lt (sizeL (by show 2 + _ + 3 < _; omega))
      · refine ⟨_, _, rfl, fun a o e z => ?_, ?_, ?_⟩
        · have z1 := keepT _ _ (fr a o e z)
          rw [upd_ne (ne_of_none e hC), upd_ne (ne_of_none z1 hD)]; exact z1
        · rw [upd_ne pC, upd_ne (ne_of_none u5 hD)]; exact u5
        · rw [upd_same, tickRow_succ hck, encR_len, lwl]
          simp
    · rintro σ H' ⟨v3, v4, rfl, fr, hz, hC'⟩
      refine ⟨hz, ?_⟩
      have sm : Same H1 (upd H' B.pd (.dK (encR B.lp))) := fun a o e => by
        by_cases z : a = B.pd
        · rw [z, upd_same]; rw [z, sb.hp] at e; exact e
        · rw [upd_ne z]; exact fr a o e z
      refine ⟨_, rfl, ?_⟩
      refine q _ L C ?_ (fun a o e n => sm a o (kb a o e n)) (LSame.refl H L) (sb.still kb hC) ?_
      · rw [est]; exact ⟨_, sb.same sm⟩
      · rw [upd_ne (Ne.symm pC), hC', est, encR_len, hlp]; rfl
end MN
set_option Elab.async false
set_option maxRecDepth 100000
set_option maxHeartbeats 2000000
set_option linter.unusedVariables false
namespace MN
open PySem PySem.Spec PyProof.Rows L2
open Vbwsah (Input Numbered Known Client State Packet Ring)
variable {P : Program} {w : World} {K : PySem.W.Frag} {mg : Str → Option Value} {base : Heap} {Z : Cs}
/-- the last world that came, or a new one with nothing -/
def LastIs (H : Hp) (kvs : List (Key × V)) (lt : Int) (t : Vbwsah.World) : Prop := (lt = 0 ∧ t = .none) ∨ (lt ≠ 0 ∧ ∃ wa, valV kvs (ik lt) = some (.ref wa) ∧ WAt H wa t)
def spLastWorld (Z : Cs) : Sp := fun vs H Q _ => ∃ (ca dx wd idd : Addr) (bo : V) (n b lt im : Int) (kvs : List (Key × V)) (t : Vbwsah.World), vs = [.ref ca] ∧ H ca = some (oClient Z dx n b lt wd im idd bo) ∧ H wd = some (.dK kvs) ∧ LastIs H kvs lt t ∧
  ∀ H' a, Same H H' → WAt H' a t → Q (.ref a) H'
theorem ok_Client_last_world (T : Txt K mg Z) : MethOk P w K mg base Z.Client 2 "last_world" ["self"] (spLastWorld Z) := by
  refine T.f_Client_last_world.ok sc_Client_last_world (fun vs H Q E h => ?_) (fun f cdv A outer s H vs Q E hr h => ⟨_, (pss_one (ps_ret (pe_m (ok_Client_world_of T) T.cl_Client hr (pv 0) (pa_cons (pe_fld (pv 0) rfl) pa_nil)))), ?_⟩)
  · obtain ⟨ca, dx, wd, idd, bo, n, b, lt, im, kvs, t, rfl, _⟩ := h; rfl
  · obtain ⟨ca, dx, wd, idd, bo, n, b, lt, im, kvs, t, rfl, hc, hw, la, q⟩ := h
    refine ⟨_, rfl, ca, dx, _, rfl, hc, nm_Client_world_of, _, rfl, ca, Z.Client, dx, _, _, rfl, hc, T.cl_Client, T.na_Client_last_tick, lk_Client_last_tick, ca, dx, wd, idd, bo, n, b, lt, im, lt, kvs, rfl, hc, hw, fun e p hp => ?_, fun ne => ?_⟩
    · rcases la with ⟨_, e2⟩ | ⟨e2, _⟩
      · exact q _ p (Same.new hp) ⟨[], upd_same, by rw [e2]; exact RepW.nil⟩
      · exact absurd e e2
    · rcases la with ⟨e2, _⟩ | ⟨_, wa, hv, wt⟩
      · exact absurd e2 ne
      · exact ⟨_, hv, q H wa (Same.refl H) wt⟩
theorem ClP.last {L : Lb} {H : Hp} {p : Int × Addr} {c : Nat} {x : Client} {dx wd idd : Addr} {lw li : List (Int × Addr)} {bo : V} (cp : ClP Z L H p (c, x) dx wd idd lw li bo) {n : Nat} {s : State} {hist : Nat → Vbwsah.World} {k : Known} {all recv : List Nat} (per : Per n s hist c k x all recv) :
    LastIs H (encR lw) (Vbwsah.newest x.ring : Int) (Vbwsah.baseOf x) := by
  have dring : (x.ring.map (·.1)).Pairwise (· > ·) := by rw [per.ring]; exact per.dRecv.sublist (List.take_sublist _ _)
  cases er : x.ring with
  | nil =>
    left
    unfold Vbwsah.newest Vbwsah.baseOf
    rw [er]
    exact ⟨rfl, rfl⟩
  | cons y r =>
    right
    have hm : y ∈ x.ring := by rw [er]; exact List.mem_cons_self
    have h0 : 0 < y.1 := by
      have : y.1 ∈ recv.take 16 := by rw [← per.ring]; exact List.mem_map.mpr ⟨y, hm, rfl⟩
      exact (per.tAll _ (per.sub _ (List.mem_of_mem_take this))).1
    obtain ⟨wa, _, _, wt, hv⟩ := cp.r2.get dring (t := y.1) (v := y.2) hm
    unfold Vbwsah.newest Vbwsah.baseOf
    rw [er]
    refine ⟨?_, wa, hv, wt⟩
    show ((y.1 : Nat) : Int) ≠ 0
    omega
theorem base_good {n : Nat} {s : State} {hist : Nat → Vbwsah.World} {c : Nat} {x : Client} {k : Known} {all recv : List Nat} (per : Per n s hist c k x all recv) : GoodW s.tick (Vbwsah.baseOf x) := by
  unfold Vbwsah.baseOf
  cases er : x.ring with
  | nil => exact GoodW.none _
  | cons y r => exact (per.ringW y (by rw [er]; exact List.mem_cons_self)).1
def spGuess (Z : Cs) : Sp := fun vs H Q _ => ∃ (ca dx wd idd : Addr) (bo : V) (n lt im : Int) (b cc : Nat) (kvs : List (Key × V)) (t : Vbwsah.World) (li : List (Int × Addr)) (m : List Numbered), vs = [.ref ca] ∧ H ca = some (oClient Z dx n (b : Int) lt wd im idd bo) ∧ H wd = some (.dK kvs) ∧ LastIs H kvs lt t ∧
  GoodW cc t ∧ b < 8 ∧ H idd = some (.dK (encR li)) ∧ InRel H li m ∧
  ∀ H' a, Same H H' → H a = none → WAt H' a (if Vbwsah.isBody t b = false then t else Vbwsah.followed t b (m.map fun i => i.2)) → Q (.ref a) H'
theorem ok_Client_guess (T : Txt K mg Z) : MethOk P w K mg base Z.Client 3 "guess" ["self"] (spGuess Z) := by
  refine T.f_Client_guess.ok sc_Client_guess (fun vs H Q E h => ?_) (fun f cdv A outer s H vs Q E hr h => ⟨_, (pss_cons (ps_set (i := 1) sc_Client_guess.nd rfl (Or.inl rfl) (pe_callTy call_dictD (by rfl) T.n_dict (by decide +kernel) (pa_cons (pe_m0 (ok_Client_last_world T) T.cl_Client hr (pv 0)) pa_nil)))
      (pss_cons (ps_if (pt_val (pe_def (ok_has_body T) hr (pa_cons (pv 1) (pa_cons (pe_fld (pv 0) rfl) pa_nil)))) (pss_one (ps_lock (ps_for PassesOwn.never rfl (pi_values (pe_fld (pv 0) rfl)) (pg_name (i := 2) sc_Client_guess.nd rfl (Or.inl rfl)) (pss_one (ps_expr (pe_def (ok_follow T) hr (pa_cons (pv 1) (pa_cons (pe_fld (pv 0) rfl) (pa_cons (pe_ix ix_tup (pv 2) pe_int (fun _ _ => rfl)) (pa_cons (pe_ix ix_tup (pv 2) pe_int (fun _ _ => rfl)) pa_nil)))))))))) pss_nil)
      (pss_one (ps_ret (pv 1))))), ?_⟩)
  · obtain ⟨ca, dx, wd, idd, bo, n, lt, im, b, cc, kvs, t, li, m, rfl, _⟩ := h; rfl
  · obtain ⟨ca, dx, wd, idd, bo, n, lt, im, b, cc, kvs, t, li, m, rfl, hc, hw, la, g0, hb8, hi, ir, q⟩ := h
    refine ⟨_, rfl, ca, dx, _, rfl, hc, nm_Client_last_world, ca, dx, wd, idd, bo, n, (b : Int), lt, im, kvs, t, rfl, hc, hw, la, fun H1 a0 s1 wt => ?_⟩
    obtain ⟨kv0, ha0, r0⟩ := wt
    refine ⟨a0, kv0, rfl, .inl ha0, fun D hD => ?_⟩
    have s2 : Same H (upd H1 D (.dK kv0)) := s1.trans (Same.new hD)
    have hD0 : H D = none := s1.free hD
    have hcD : ca ≠ D := ne_of_none hc hD0
    have hbd := has_eq r0 b
    refine ⟨_, rfl, _, rfl, ca, Z.Client, dx, _, _, rfl, s2 _ _ hc, T.cl_Client, T.na_Client_body, lk_Client_body, D, kv0, (b : Int), rfl, upd_same, _, rfl, ?_⟩
    rw [hbd]
    cases hib : Vbwsah.isBody t b with
    | false =>
      rw [hib, if_pos rfl] at q
      refine iteF ⟨_, rfl, q _ D s2 hD0 ⟨kv0, upd_same, r0⟩⟩
    | true =>
      rw [hib, if_neg (by simp)] at q
      refine iteT ?_
      have hi2 := s2 _ _ hi
      have hc2 := s2 _ _ hc
      have nci : ca ≠ idd := ne_of hc hi (fun z => nomatch z)
      have nDi : D ≠ idd := ne_of_none' hi hD0
      refine ⟨idd, .dK (encR li), hi2, trivial, fun od => ?_⟩
      generalize hH2 : upd H1 D (.dK kv0) = H2 at *
      have hx : upd H2 idd (.frz od (.dK (encR li))) ca = some (oClient Z dx n (b : Int) lt wd im idd bo) := by rw [upd_ne nci]; exact hc2
      refine ⟨_, rfl, ca, Z.Client, dx, _, _, rfl, hx, T.cl_Client, T.na_Client_inputs, lk_Client_inputs, idd, od, encR li, rfl, upd_same, ?_⟩
      have hDD : H2 D = some (.dK kv0) := by rw [← hH2]; exact upd_same
      refine for_it walk_values (fun i σ H' => ∃ (v2 : Option V) (kvs' : List (Key × V)), σ = [some (.ref ca), some (.ref D), v2] ∧ (∀ a o, upd H2 idd (.frz od (.dK (encR li))) a = some o → a ≠ D → H' a = some o) ∧ H' D = some (.dK kvs') ∧ RepW kvs' (Vbwsah.followed t b ((m.take i).map fun i => i.2))) ⟨none, kv0, rfl, fun a o e _ => e, by rw [upd_ne nDi]; exact hDD, r0⟩ (fun i σ H' _ ⟨_, _, _, fr, _⟩ => fr idd _ upd_same (Ne.symm nDi)) ?_ ?_
      · rintro i x σ H3 H4 hi3 ⟨v2, kvs', rfl, fr, hD', r'⟩ ⟨rfl, kk, hk⟩
        have hil : i < li.length := by rw [encR_len] at hi3; exact hi3
        have hge : (encR li)[i]? = some (ik li[i].1, .ref li[i].2) := by
          unfold encR
          rw [List.getElem?_map, List.getElem?_eq_getElem hil]; rfl
        rw [hge] at hk
        have ex : V.ref li[i].2 = x := congrArg Prod.snd (Option.some.inj hk)
        subst ex
        obtain ⟨y, hy, e1, ht⟩ := Paired.at ir (List.getElem?_eq_getElem hil)
        have ht2 : upd H2 idd (.frz od (.dK (encR li))) li[i].2 = some (tupI y.2) := by rw [upd_ne (ne_of ht hi (fun z => nomatch z))]; exact s2 _ _ ht
        have ht4 := fr _ _ ht2 (ne_of_none ht hD0)
        have hc4 := fr _ _ hx hcD
        have il : ((m.take i).map fun i => i.2).length ≤ i := by rw [List.length_map, List.length_take]; omega
        obtain ⟨gj, bj, cj⟩ := followed_good ((m.take i).map fun i => i.2) g0 hb8 hib (d := cc + i) (by omega) (by
          obtain ⟨x, y, u, v, nn, ex, ey, eu, ev, en, hx, hy, hu, hv, hn'⟩ := g0.has hb8 hib
          have : Vbwsah.at_ t (1000 + b) = nn := by unfold Vbwsah.at_; rw [en]; rfl
          rw [this]; omega)
        have ibj : Vbwsah.isBody (Vbwsah.followed t b ((m.take i).map fun i => i.2)) b = true := (bj b hb8).trans hib
        obtain ⟨x, y', u, v, nn, ex, ey, eu, ev, en, hx', hy', hu', hv', hn'⟩ := gj.has hb8 ibj
        refine ⟨_, rfl, _, rfl, ca, Z.Client, dx, _, _, rfl, hc4, T.cl_Client, T.na_Client_body, lk_Client_body, _, rfl, li[i].2, _, _, _, rfl, rfl, SqT.of ht4, atI_nat (j := 0) rfl, _, rfl, li[i].2, _, _, _, rfl, rfl, SqT.of ht4, atI_nat (j := 1) rfl, D, kvs', (b : Int), y.2.ax, y.2.ay, x, y', u, v, nn, rfl, hD', ?_, ?_, ?_, ?_, ?_, by omega, ?_, ?_⟩
        · rw [show 4 * (b : Int) = ((4 * b : Nat) : Int) by omega, r'.get, ex]; rfl
        · rw [show 4 * (b : Int) + 1 = ((4 * b + 1 : Nat) : Int) by omega, r'.get, ey]; rfl
        · rw [show 4 * (b : Int) + 2 = ((4 * b + 2 : Nat) : Int) by omega, r'.get, eu]; rfl
        · rw [show 4 * (b : Int) + 3 = ((4 * b + 3 : Nat) : Int) by omega, r'.get, ev]; rfl
        · rw [show 1000 + (b : Int) = ((1000 + b : Nat) : Int) by omega, r'.get, en]; rfl
        · have := size_good gj
          rw [r'.len]; omega
        refine ⟨_, _, rfl, fun a o e h1 => by rw [upd_ne h1]; exact fr a o e h1, upd_same, ?_⟩
        rw [take_snoc hy, List.map_append]
        have e : Vbwsah.followed t b (((m.take i).map fun i => i.2) ++ ([y].map fun i => i.2)) = Vbwsah.moved (Vbwsah.followed t b ((m.take i).map fun i => i.2)) b y.2 := by
          unfold Vbwsah.followed
          rw [List.foldl_append]; rfl
        rw [e]
        exact r'.moved hb8 ex ey eu ev en y.2
      · rintro σ H3 ⟨v2, kvs', rfl, fr, hD', r'⟩
        rw [encR_len, Paired.len ir, List.take_length] at r'
        refine ⟨fr idd _ upd_same (Ne.symm nDi), _, rfl, q _ D (fun a o e => ?_) hD0 ⟨kvs', by rw [upd_ne nDi]; exact hD', r'⟩⟩
        by_cases z : a = idd
        · subst z
          rw [upd_same]
          rw [hi] at e; exact e
        · rw [upd_ne z]
          exact fr a o (by rw [upd_ne z]; exact s2 a o e) (ne_of_none e hD0)
end MN
set_option Elab.async false
set_option maxRecDepth 100000
set_option maxHeartbeats 2000000
set_option linter.unusedVariables false
namespace MN
open PySem PySem.Spec PyProof.Rows L2
open Vbwsah (Input Numbered Known Client State Packet Ring)
variable {P : Program} {w : World} {K : PySem.W.Frag} {mg : Str → Option Value} {base : Heap} {Z : Cs}
theorem LastIs.same {H H' : Hp} {kvs : List (Key × V)} {lt : Int} {t : Vbwsah.World} (h : LastIs H kvs lt t) (s : Same H H') : LastIs H' kvs lt t := by
  rcases h with h | ⟨e, wa, hv, kv, hw, r⟩
  · exact .inl h
  · exact .inr ⟨e, wa, hv, kv, s _ _ hw, r⟩
theorem ok_tell_base (T : Txt K mg Z) : DefOk P w K mg base 4 "tell_base" ["net", "number"] (fun vs H Q E => ∃ c : Int, spCall Z (.base c) [.int c] vs H Q E) := by
  refine T.f_tell_base.ok sc_tell_base (fun vs H Q E h => ?_) (fun f cdv A outer s H vs Q E hr h => ⟨_, (pss_cons (ps_if (pt_cmp (pc_dnotin (hu_of hr) (pv 1) (pe_fld (pv 0) rfl))) (pss_one (ps_ret (pe_lst (pa_cons (pe_gc T.c_NO_SUCH) pa_nil)))) pss_nil)
      (pss_cons (ps_set (i := 2) sc_tell_base.nd rfl (Or.inl rfl) (pe_dget (hu_of hr) (pe_fld (pv 0) rfl) (pv 1) (fun _ _ => rfl)))
      (pss_one (ps_ret (pe_op op_cat (pe_lst (pa_cons pe_int (pa_cons (pe_fld (pv 2) rfl) pa_nil))) (pe_def (ok_listed T) hr (pa_cons (pe_m0 (ok_Client_last_world T) T.cl_Client hr (pv 2)) pa_nil))))))), ?_⟩)
  · obtain ⟨c, L, net, s, n, hist, rfl, _⟩ := h; rfl
  · obtain ⟨c, L, net, st, n, hist, rfl, ⟨A, sa⟩, iv, hn, q⟩ := h
    have q : Wants Z (.base c) L H net st Q := q
    have h0 := sa.h0
    rcases sa.onCl iv c with ⟨no, e1, e2⟩ | ⟨k, p, p', x, x', l1, l2, l1', l2', m1, m2, m1', m2', rfl, s1, s2, on⟩
    · refine st_seq (st_y (val_dnotin (val_var rfl) (val_net (f := "clients") (val_var rfl) h0 T T.na_Net_clients lk_Net_clients) sa.hc) (by rw [e1]; rfl) ?_)
      refine st_retL (fun Q q => q) (by decide) fun p hp => q.same sa (xs := [-1]) ?_ (Same.refl H) hp
      rw [Vbwsah.step, no]
    refine st_seq (st_n (val_dnotin (val_var rfl) (val_net (f := "clients") (val_var rfl) h0 T T.na_Net_clients lk_Net_clients) sa.hc) (by rw [s1.val]; rfl) ?_)
    obtain ⟨dx, wd, idd, lw, li, bo, cp⟩ := s1.r
    obtain ⟨all, recv, per⟩ := iv.per _ _ _ s2.mem s1.mem
    refine st_seq (st_set (val_dget (val_net (f := "clients") (val_var rfl) h0 T T.na_Net_clients lk_Net_clients) (val_var rfl) sa.hc s1.val) ?_)
    refine ⟨_, rfl, p.2, Z.Client, dx, _, _, rfl, cp.h1, T.cl_Client, T.na_Client_last_tick, lk_Client_last_tick, ?_⟩
    refine ⟨(by show 2 ≤ sizeLine; decide), fun C hC => ?_⟩
    have s0 : Same H (upd H C (.lst [.int 0, .int (Vbwsah.newest x.ring : Int)])) := Same.new hC
    refine ⟨_, rfl, p.2, dx, _, rfl, s0 _ _ cp.h1, nm_Client_last_world, p.2, dx, wd, idd, bo, _, _, _, _, encR lw, Vbwsah.baseOf x, rfl, s0 _ _ cp.h1, s0 _ _ cp.h2, (cp.last per).same s0, fun H2 a sm2 wt => ?_⟩
    obtain ⟨kv, ha, r⟩ := wt
    have hz := size_104 (base_good per)
    have hl := pairsRow_len (Vbwsah.baseOf x)
    refine ⟨a, kv, Vbwsah.baseOf x, rfl, ha, r, by omega, fun H3 p3 sm3 hp3 hp3' => ?_⟩
    refine ⟨C, p3, _, _, rfl, rfl, sm3 _ _ (sm2 _ _ upd_same), hp3', ?_, fun r hr => ?_⟩
    · rw [List.length_map]
      exact Nat.le_of_lt (sizeL (by show 2 + _ < _; omega))
    · exact q.same sa (xs := 0 :: (Vbwsah.newest x.ring : Int) :: Vbwsah.pairsRow (Vbwsah.baseOf x)) (by rw [Vbwsah.step, on]) (s0.trans (sm2.trans sm3)) hr
theorem desc_is {ys ks : List Int} (h1 : ys.Perm ks) (h2 : ys.Pairwise (· ≥ ·)) (h3 : ks.Pairwise (· < ·)) : ys = ks.reverse := by
  have nd : ys.Nodup := h1.nodup_iff.mpr (lt_nodup h3)
  have e : ys.reverse = ks := by
    refine sorted_ext ?_ h3 fun x => by rw [List.mem_reverse]; exact h1.mem_iff
    rw [List.pairwise_reverse]
    exact (List.pairwise_and_iff.mpr ⟨h2, nd⟩).imp fun {x y} h => by have := h.1; have := h.2; omega
  rw [← e, List.reverse_reverse]
theorem ok_tell_ring (T : Txt K mg Z) : DefOk P w K mg base 1 "tell_ring" ["net", "number"] (fun vs H Q E => ∃ c : Int, spCall Z (.ring c) [.int c] vs H Q E) := by
  refine T.f_tell_ring.ok sc_tell_ring (fun vs H Q E h => ?_) (fun f cdv A outer s H vs Q E hr h => ⟨_, (pss_cons (ps_if (pt_cmp (pc_dnotin (hu_of hr) (pv 1) (pe_fld (pv 0) rfl))) (pss_one (ps_ret (pe_lst (pa_cons (pe_gc T.c_NO_SUCH) pa_nil)))) pss_nil)
      (pss_one (ps_ret (pe_op op_cat (pe_lst (pa_cons pe_int pa_nil)) (pe_callBK (cr_sortedDRev rfl) (by rfl) T.n_sorted (by decide +kernel) (pa_cons (pe_fld (pe_dget (hu_of hr) (pe_fld (pv 0) rfl) (pv 1) (fun _ _ => rfl)) rfl) pa_nil) (pk_cons pe_bl pk_nil)))))), ?_⟩)
  · obtain ⟨c, L, net, s, n, hist, rfl, _⟩ := h; rfl
  · obtain ⟨c, L, net, st, n, hist, rfl, ⟨A, sa⟩, iv, hn, q⟩ := h
    have q : Wants Z (.ring c) L H net st Q := q
    have h0 := sa.h0
    rcases sa.onCl iv c with ⟨no, e1, e2⟩ | ⟨k, p, p', x, x', l1, l2, l1', l2', m1, m2, m1', m2', rfl, s1, s2, on⟩
    · refine st_seq (st_y (val_dnotin (val_var rfl) (val_net (f := "clients") (val_var rfl) h0 T T.na_Net_clients lk_Net_clients) sa.hc) (by rw [e1]; rfl) ?_)
      refine st_retL (fun Q q => q) (by decide) fun p hp => q.same sa (xs := [-1]) ?_ (Same.refl H) hp
      rw [Vbwsah.step, no]
    refine st_seq (st_n (val_dnotin (val_var rfl) (val_net (f := "clients") (val_var rfl) h0 T T.na_Net_clients lk_Net_clients) sa.hc) (by rw [s1.val]; rfl) ?_)
    obtain ⟨dx, wd, idd, lw, li, bo, cp⟩ := s1.r
    obtain ⟨all, recv, per⟩ := iv.per _ _ _ s2.mem s1.mem
    have dring : (x.ring.map (·.1)).Pairwise (· > ·) := by rw [per.ring]; exact per.dRecv.sublist (List.take_sublist _ _)
    have hrl : x.ring.length ≤ 16 := by
      have := congrArg List.length per.ring
      rw [List.length_map, List.length_take] at this
      omega
    refine ⟨(by show 1 ≤ sizeLine; decide), fun C hC => ?_⟩
    have s0 : Same H (upd H C (.lst [.int 0])) := Same.new hC
    refine ⟨_, rfl, net, Z.Net, A.dx, _, _, rfl, s0 _ _ h0, T.cl_Net, T.na_Net_clients, lk_Net_clients, _, rfl, A.cd, .ref p.2, rfl, s1.val ▸ DGet.k (k := ik (k : Int)) (s0 _ _ sa.hc), p.2, Z.Client, dx, _, _, rfl, s0 _ _ cp.h1, T.cl_Client, T.na_Client_worlds, lk_Client_worlds, wd, encR lw, lw.map (·.1), rfl, rfl, .inl (s0 _ _ cp.h2), encR_keys lw, fun ys p2 hy1 hy2 hp2 => ?_⟩
    have ey : ys = x.ring.map fun q => (q.1 : Int) := by
      rw [desc_is hy1 hy2 (cp.r2.sorted dring), cp.r2.nums, List.reverse_reverse]
    have sm2 := s0.trans (Same.new (o := .lst (ys.map V.int)) hp2)
    refine ⟨C, p2, _, _, rfl, rfl, by rw [upd_ne (ne_of_none upd_same hp2)]; exact upd_same, upd_same, ?_, fun r hr => ?_⟩
    · rw [ey, List.length_map, List.length_map]
      exact Nat.le_of_lt (sizeL (by show 1 + _ < _; omega))
    · have := q.same sa (xs := 0 :: ys) (by
        rw [Vbwsah.step, on, ey]
        unfold Vbwsah.ints
        rw [List.map_map]; rfl) sm2 hr
      exact this
end MN
set_option Elab.async false
set_option maxRecDepth 100000
set_option maxHeartbeats 2000000
set_option linter.unusedVariables false
namespace MN
open PySem PySem.Spec PyProof.Rows L2
open Vbwsah (Input Numbered Known Client State Packet Ring)
variable {P : Program} {w : World} {K : PySem.W.Frag} {mg : Str → Option Value} {base : Heap} {Z : Cs}
def bodyKs (b : Int) : List Int := [4 * b, 4 * b + 1, 4 * b + 2, 4 * b + 3, 1000 + b]
def orZero (kvs : List (Key × V)) (k : Int) : V := (valV kvs (ik k)).getD (.int 0)
def spBodyVals : Sp := fun vs H Q _ => ∃ (a : Addr) (kvs : List (Key × V)) (b : Int), vs = [.ref a, .int b] ∧ H a = some (.dK kvs) ∧ ∀ H' p, Same H H' → H p = none → H' p = some (.lst ((bodyKs b).map (orZero kvs))) → Q (.ref p) H'
theorem ok_body_values (T : Txt K mg Z) : DefOk P w K mg base 2 "body_values" ["world", "body"] spBodyVals := by
  refine T.f_body_values.ok sc_body_values (fun vs H Q E h => ?_) (fun f cdv A outer s H vs Q E hr h => ⟨_, (pss_cons (ps_set (i := 2) sc_body_values.nd rfl (Or.inl rfl) (pe_op op_mul (pe_gc T.c_KEYS_OF_A_BODY) (pv 1)))
      (pss_cons (ps_set (i := 3) sc_body_values.nd rfl (Or.inl rfl) (pe_lst (pa_cons (pv 2) (pa_cons (pe_op op_add (pv 2) pe_int) (pa_cons (pe_op op_add (pv 2) pe_int) (pa_cons (pe_op op_add (pv 2) pe_int) (pa_cons (pe_def (ok_followed_key T) hr (pa_cons (pv 1) pa_nil)) pa_nil)))))))
      (pss_one (ps_ret (pe_lc (te := tDGet2 (tVar 0) (tVar 4) (tC (.int 0))) (own := [("key", 4)]) (g := gName 4) (tt := tYes) rfl sc_body_values.nd (pi_list (pv 3)) (blkOk_by (own := [("key", 4)]) (N := ["world", "body", "first", "keys", "key"]) (sc := defScope s_body_values) (by decide +kernel)) (fun _ _ _ _ _ => by exact pg_name (i := 4) sc_body_values.nd rfl (Or.inl rfl)) (fun _ _ _ _ _ => by exact pts_nil) (fun _ _ _ _ _ => by exact (pe_dget2 (hu_of hr) (pv 0) (pv 4) pe_int ⟨rfl, rfl, rfl, rfl⟩))))))), ?_⟩)
  · obtain ⟨a, kvs, b, rfl, _⟩ := h; rfl
  · obtain ⟨a, kvs, b, rfl, ha, q⟩ := h
    refine ⟨_, rfl, _, _, rfl, rfl, .inl ⟨by decide, by decide⟩, ?_⟩
    refine ⟨_, rfl, _, rfl, _, _, rfl, rfl, _, rfl, _, _, rfl, rfl, _, rfl, _, _, rfl, rfl, _, rfl, b, rfl, ?_⟩
    refine ⟨(by show 5 ≤ sizeLine; decide), fun C hC => ?_⟩
    have s0 : Same H (upd H C (.lst ((bodyKs b).map V.int))) := Same.new hC
    refine ⟨_, rfl, C, rfl, ⟨_, SqL.of upd_same⟩, fun D hD => ?_⟩
    have nCD : C ≠ D := ne_of_none upd_same hD
    refine lc_list (K := K) (a := C) (xs := (bodyKs b).map V.int) (fun i H' => Same H H' ∧ H' C = some (.lst ((bodyKs b).map V.int)) ∧ H' D = some (.lst (((bodyKs b).take i).map (orZero kvs)))) ⟨s0.trans (Same.new hD), by rw [upd_ne nCD]; exact upd_same, upd_same⟩ (fun i H' _ h => SqL.of h.2.1) ?_ ?_
    · rintro i x H1 hi ⟨sm, hC1, hD1⟩
      rw [List.getElem?_map] at hi
      cases ek : (bodyKs b)[i]? with
      | none => rw [ek] at hi; cases hi
      | some k =>
        rw [ek] at hi
        cases hi
        refine ⟨rfl, ⟨_, rfl, a, rfl, .inl ⟨kvs, .inl (sm _ _ ha)⟩, _, rfl, _, DGet.k (k := ik k) (sm _ _ ha), _, hD1, ?_, ?_⟩⟩
        · rw [List.length_map, List.length_take]
          exact sizeL (by show min i 5 < _; omega)
        · refine ⟨MN.Same.mut sm (s0.free hD), by rw [upd_ne nCD]; exact hC1, ?_⟩
          rw [upd_same, take_snoc ek, List.map_append]; rfl
    · rintro H1 ⟨sm, hC1, hD1⟩
      exact q H1 D sm (s0.free hD) hD1
theorem orZero_at {kvs : List (Key × V)} {t : Vbwsah.World} (r : RepW kvs t) (k : Nat) : orZero kvs (k : Int) = .int (Vbwsah.at_ t k) := by
  unfold orZero Vbwsah.at_
  rw [r.get]
  cases Vbwsae.get t k <;> rfl
theorem guess_is {n : Nat} {s : State} {hist : Nat → Vbwsah.World} {c : Nat} {x : Client} {k : Known} {all recv : List Nat} (per : Per n s hist c k x all recv) :
    Vbwsah.guess x = if Vbwsah.isBody (Vbwsah.baseOf x) x.body = false then Vbwsah.baseOf x else Vbwsah.followed (Vbwsah.baseOf x) x.body (x.inputs.map fun i => i.2) := by
  unfold Vbwsah.guess
  have e : (x.inputs.filter fun i => decide (Vbwsah.countOf (Vbwsah.baseOf x) x.body < i.1)) = x.inputs := by
    rw [List.filter_eq_self]
    intro i hi
    exact decide_eq_true (per.xinB i hi).2.2
  rw [e]
theorem ok_tell_guess (T : Txt K mg Z) : DefOk P w K mg base 4 "tell_guess" ["net", "number"] (fun vs H Q E => ∃ c : Int, spCall Z (.guess c) [.int c] vs H Q E) := by
  refine T.f_tell_guess.ok sc_tell_guess (fun vs H Q E h => ?_) (fun f cdv A outer s H vs Q E hr h => ⟨_, (pss_cons (ps_if (pt_cmp (pc_dnotin (hu_of hr) (pv 1) (pe_fld (pv 0) rfl))) (pss_one (ps_ret (pe_lst (pa_cons (pe_gc T.c_NO_SUCH) pa_nil)))) pss_nil)
      (pss_cons (ps_set (i := 2) sc_tell_guess.nd rfl (Or.inl rfl) (pe_dget (hu_of hr) (pe_fld (pv 0) rfl) (pv 1) (fun _ _ => rfl)))
      (pss_one (ps_ret (pe_op op_cat (pe_lst (pa_cons pe_int (pa_cons (pe_callB call_lenD (by rfl) T.n_len (by decide +kernel) (pa_cons (pe_fld (pv 2) rfl) pa_nil)) pa_nil))) (pe_def (ok_body_values T) hr (pa_cons (pe_m0 (ok_Client_guess T) T.cl_Client hr (pv 2)) (pa_cons (pe_fld (pv 2) rfl) pa_nil)))))))), ?_⟩)
  · obtain ⟨c, L, net, s, n, hist, rfl, _⟩ := h; rfl
  · obtain ⟨c, L, net, st, n, hist, rfl, ⟨A, sa⟩, iv, hn, q⟩ := h
    have q : Wants Z (.guess c) L H net st Q := q
    have h0 := sa.h0
    rcases sa.onCl iv c with ⟨no, e1, e2⟩ | ⟨k, p, p', x, x', l1, l2, l1', l2', m1, m2, m1', m2', rfl, s1, s2, on⟩
    · refine st_seq (st_y (val_dnotin (val_var rfl) (val_net (f := "clients") (val_var rfl) h0 T T.na_Net_clients lk_Net_clients) sa.hc) (by rw [e1]; rfl) ?_)
      refine st_retL (fun Q q => q) (by decide) fun p hp => q.same sa (xs := [-1]) ?_ (Same.refl H) hp
      rw [Vbwsah.step, no]
    refine st_seq (st_n (val_dnotin (val_var rfl) (val_net (f := "clients") (val_var rfl) h0 T T.na_Net_clients lk_Net_clients) sa.hc) (by rw [s1.val]; rfl) ?_)
    obtain ⟨dx, wd, idd, lw, li, bo, cp⟩ := s1.r
    obtain ⟨all, recv, per⟩ := iv.per _ _ _ s2.mem s1.mem
    have hb8 : x.body < 8 := by rw [per.same]; exact (iv.body _ s2.mem).1
    refine st_seq (st_set (val_dget (val_net (f := "clients") (val_var rfl) h0 T T.na_Net_clients lk_Net_clients) (val_var rfl) sa.hc s1.val) ?_)
    refine ⟨_, rfl, p.2, Z.Client, dx, _, _, rfl, cp.h1, T.cl_Client, T.na_Client_inputs, lk_Client_inputs, idd, encR li, rfl, cp.h3, ?_⟩
    refine ⟨(by show 2 ≤ sizeLine; decide), fun C hC => ?_⟩
    have s0 : Same H (upd H C (.lst [.int 0, .int ((encR li).length : Int)])) := Same.new hC
    have ir : InRel (upd H C (.lst [.int 0, .int ((encR li).length : Int)])) li x.inputs := Paired.mapP cp.r3.rel fun p q ⟨a, b⟩ => ⟨a, s0 _ _ b⟩
    refine ⟨_, rfl, p.2, dx, _, rfl, s0 _ _ cp.h1, nm_Client_guess, p.2, dx, wd, idd, bo, _, _, _, x.body, st.tick, encR lw, Vbwsah.baseOf x, li, x.inputs, rfl, s0 _ _ cp.h1, s0 _ _ cp.h2, (cp.last per).same s0, base_good per, hb8, s0 _ _ cp.h3, ir, fun H2 a sm2 _ wt => ?_⟩
    rw [← guess_is per] at wt
    obtain ⟨kv, ha, rk⟩ := wt
    have sm02 := s0.trans sm2
    refine ⟨_, rfl, p.2, Z.Client, dx, _, _, rfl, sm02 _ _ cp.h1, T.cl_Client, T.na_Client_body, lk_Client_body, a, kv, (x.body : Int), rfl, ha, fun H3 p3 sm3 hp3 hp3' => ?_⟩
    refine ⟨C, p3, _, _, rfl, rfl, sm3 _ _ (sm2 _ _ upd_same), hp3', (by show 7 ≤ sizeLine; decide), fun r hr => ?_⟩
    have el : (encR li).length = x.inputs.length := by rw [encR_len]; exact Paired.len cp.r3
    have ev : (bodyKs (x.body : Int)).map (orZero kv) = (([0, 1, 2, 3].map fun j => Vbwsah.at_ (Vbwsah.guess x) (Vbwsah.keyOf x.body j)) ++ [Vbwsah.at_ (Vbwsah.guess x) (Vbwsah.countKey x.body)]).map V.int := by
      unfold bodyKs Vbwsah.keyOf Vbwsah.countKey
      simp only [List.map_cons, List.map_nil, List.cons_append, List.nil_append]
      rw [show 4 * (x.body : Int) = ((4 * x.body + 0 : Nat) : Int) by omega, orZero_at rk,
        show ((4 * x.body + 0 : Nat) : Int) + 1 = ((4 * x.body + 1 : Nat) : Int) by omega, orZero_at rk,
        show ((4 * x.body + 0 : Nat) : Int) + 2 = ((4 * x.body + 2 : Nat) : Int) by omega, orZero_at rk,
        show ((4 * x.body + 0 : Nat) : Int) + 3 = ((4 * x.body + 3 : Nat) : Int) by omega, orZero_at rk,
        show 1000 + (x.body : Int) = ((1000 + x.body : Nat) : Int) by omega, orZero_at rk]
    have := q.same sa (xs := [0, (x.inputs.length : Int)] ++ ([0, 1, 2, 3].map fun j => Vbwsah.at_ (Vbwsah.guess x) (Vbwsah.keyOf x.body j)) ++ [Vbwsah.at_ (Vbwsah.guess x) (Vbwsah.countKey x.body)]) (by rw [Vbwsah.step, on]) (sm02.trans sm3) hr
    rw [ev, el]
    exact this
end MN
set_option Elab.async false
set_option maxRecDepth 100000
set_option maxHeartbeats 2000000
set_option linter.unusedVariables false
namespace MN
open PySem PySem.Spec PyProof.Rows L2
open Vbwsah (Input Numbered Known Client State Packet Ring Frac Clock)
variable {P : Program} {w : World} {K : PySem.W.Frag} {mg : Str → Option Value} {base : Heap} {Z : Cs}
theorem ok_is_clock_time (T : Txt K mg Z) : DefOk P w K mg base 1 "is_clock_time" ["time"] (spB1 (inR 0 1000000000)) := by
  refine T.f_is_clock_time.ok sc_is_clock_time (fun vs H Q E h => ?_) (fun f cdv A outer s H vs Q E hr h => ⟨_, (pss_one (ps_ret (pe_chain op_le op_le pe_int (pv 0) (pe_gc T.c_GREATEST_TIME)))), ?_⟩)
  · obtain ⟨i, rfl, _⟩ := h; rfl
  · obtain ⟨i, rfl, q⟩ := h
    exact ⟨_, rfl, _, _, rfl, rfl, chain_le q⟩
theorem ok_is_drift (T : Txt K mg Z) : DefOk P w K mg base 1 "is_drift" ["drift"] (spB1 (inR 0 500)) := by
  refine T.f_is_drift.ok sc_is_drift (fun vs H Q E h => ?_) (fun f cdv A outer s H vs Q E hr h => ⟨_, (pss_one (ps_ret (pe_chain op_le op_le pe_int (pv 0) (pe_gc T.c_GREATEST_DRIFT)))), ?_⟩)
  · obtain ⟨i, rfl, _⟩ := h; rfl
  · obtain ⟨i, rfl, q⟩ := h
    exact ⟨_, rfl, _, _, rfl, rfl, chain_le q⟩
/-- what a client knows: nothing, or a time and two bounds in thousandths -/
def BoIs (Z : Cs) (H : Hp) (bo : V) : Option (Int × Int × Int) → Prop
  | none => bo = .non
  | some o => ∃ a da, bo = .ref a ∧ H a = some (oBounds Z da o.1 o.2.1 o.2.2)
theorem BoIs.same {H H' : Hp} {bo : V} {o : Option (Int × Int × Int)} (h : BoIs Z H bo o) (s : Same H H') : BoIs Z H' bo o := by
  cases o with
  | none => exact h
  | some o =>
    obtain ⟨a, da, e, ha⟩ := h
    exact ⟨a, da, e, s _ _ ha⟩
def spKnows (Z : Cs) : Sp := fun vs H Q _ => ∃ (ca dx wd idd : Addr) (bo : V) (n b lt im t : Int) (o : Option (Int × Int × Int)), vs = [.ref ca, .int t] ∧ H ca = some (oClient Z dx n b lt wd im idd bo) ∧ BoIs Z H bo o ∧ Q (.bl (o.any fun y => decide (t < y.1))) H
theorem ok_Client_knows_later_than (T : Txt K mg Z) : MethOk P w K mg base Z.Client 1 "knows_later_than" ["self", "time"] (spKnows Z) := by
  refine T.f_Client_knows_later_than.ok sc_Client_knows_later_than (fun vs H Q E h => ?_) (fun f cdv A outer s H vs Q E hr h => ⟨_, (pss_one (ps_ret (pe_and (pe_cmpR op_notN (pe_fld (pv 0) rfl) pe_non (nomark _)) (pe_one (pe_cmpR op_gt (pe_fld (pe_fld (pv 0) rfl) rfl) (pv 1) (nomark _)))))), ?_⟩)
  · obtain ⟨ca, dx, wd, idd, bo, n, b, lt, im, t, o, rfl, _⟩ := h; rfl
  · obtain ⟨ca, dx, wd, idd, bo, n, b, lt, im, t, o, rfl, hc, hb, q⟩ := h
    refine ⟨_, rfl, ca, Z.Client, dx, _, _, rfl, hc, T.cl_Client, T.na_Client_bounds, lk_Client_bounds, rfl, _, rfl, ?_⟩
    cases o with
    | none =>
      have e : bo = .non := hb
      subst e
      exact iteF q
    | some o =>
      obtain ⟨a, da, rfl, ha⟩ := hb
      refine iteT ⟨_, rfl, ca, Z.Client, dx, _, _, rfl, hc, T.cl_Client, T.na_Client_bounds, lk_Client_bounds, a, Z.Bounds, da, _, _, rfl, ha, T.cl_Bounds, T.na_Bounds_time, lk_Bounds_time, _, rfl, _, _, rfl, rfl, q⟩
/-- what is known behind an exchange -/
def learnt (o : Option (Int × Int × Int)) (d t m2 j2 : Int) : Bool × Int × Int := match o with
  | none => (true, m2, j2)
  | some y =>
    let m1 := y.2.1 - (t - y.1) * d
    let j1 := y.2.2 + (t - y.1) * d
    let m3 := if m1 ≤ m2 then m2 else m1
    let j3 := if j1 ≤ j2 then j1 else j2
    if j3 < m3 then (false, m2, j2) else (true, m3, j3)
def spLearn (Z : Cs) : Sp := fun vs H Q _ => ∃ (ca dx wd idd nb dn : Addr) (bo : V) (n b lt im d t m2 j2 : Int) (o : Option (Int × Int × Int)), vs = [.ref ca, .ref nb, .int d] ∧ H ca = some (oClient Z dx n b lt wd im idd bo) ∧ H nb = some (oBounds Z dn t m2 j2) ∧ BoIs Z H bo o ∧ nb ≠ ca ∧ 0 ≤ d ∧ d ≤ 500 ∧
  ∀ H' p dp, (∀ a o, H a = some o → a ≠ ca → H' a = some o) → (p = nb ∨ H p = none) → H' p = some (oBounds Z dp t (learnt o d t m2 j2).2.1 (learnt o d t m2 j2).2.2) → H' ca = some (oClient Z dx n b lt wd im idd (.ref p)) → Q (.bl (learnt o d t m2 j2).1) H'
theorem ok_Client_learn_bounds (T : Txt K mg Z) : MethOk P w K mg base Z.Client 4 "learn_bounds" ["self", "new", "drift"] (spLearn Z) := by
  refine T.f_Client_learn_bounds.ok sc_Client_learn_bounds (fun vs H Q E h => ?_) (fun f cdv A outer s H vs Q E hr h => ⟨_, (pss_cons (ps_set (i := 3) sc_Client_learn_bounds.nd rfl (Or.inl rfl) (pv 1))
      (pss_cons (ps_if (pt_cmpR op_notN (pe_fld (pv 0) rfl) pe_non (nomark _)) (pss_one (ps_set (i := 3) sc_Client_learn_bounds.nd rfl (Or.inl rfl) (pe_def (ok_both_together T) hr (pa_cons (pe_m (ok_Bounds_later T) T.cl_Bounds hr (pe_fld (pv 0) rfl) (pa_cons (pe_fld (pv 1) rfl) (pa_cons (pv 2) pa_nil))) (pa_cons (pv 1) pa_nil))))) pss_nil)
      (pss_cons (ps_fld (pv 0) (pe_ifExp (pt_cmpR op_isN (pv 3) pe_non (nomark _)) (pv 1) (pv 3)) rfl)
      (pss_one (ps_ret (pe_cmpR op_notN (pv 3) pe_non (nomark _))))))), ?_⟩)
  · obtain ⟨ca, dx, wd, idd, nb, dn, bo, n, b, lt, im, d, t, m2, j2, o, rfl, _⟩ := h; rfl
  · obtain ⟨ca, dx, wd, idd, nb, dn, bo, n, b, lt, im, d, t, m2, j2, o, rfl, hc, hn, hb, nn, d0, d1, q⟩ := h
    refine ⟨_, rfl, ?_⟩
    refine ⟨_, rfl, ca, Z.Client, dx, _, _, rfl, hc, T.cl_Client, T.na_Client_bounds, lk_Client_bounds, rfl, _, rfl, ?_⟩
    have noN : ∀ a : Addr, decide (V.ref a = V.non) = false := fun a => decide_eq_false fun z => nomatch z
    cases o with
    | none =>
      have e : bo = .non := hb
      subst e
      refine iteF ?_
      refine ⟨_, rfl, rfl, _, rfl, ?_⟩
      rw [noN]
      refine iteF ⟨_, rfl, _, rfl, ca, Z.Client, dx, _, rfl, hc, T.cl_Client, T.na_Client_bounds, (by show 7 < 1000; decide), ?_⟩
      rw [pf_Client_bounds]
      refine ⟨_, rfl, rfl, ?_⟩
      rw [noN]
      exact q _ nb dn (fun a o e z => by rw [upd_ne z]; exact e) (.inl rfl) (by rw [upd_ne nn]; exact hn) upd_same
    | some o =>
      obtain ⟨a, da, rfl, ha⟩ := hb
      rw [noN]
      refine iteT ?_
      refine ⟨_, rfl, ca, Z.Client, dx, _, _, rfl, hc, T.cl_Client, T.na_Client_bounds, lk_Client_bounds, a, da, _, rfl, ha, nm_Bounds_later, _, rfl, nb, Z.Bounds, dn, _, _, rfl, hn, T.cl_Bounds, T.na_Bounds_time, lk_Bounds_time, _, rfl, a, da, t, d, o.1, o.2.1, o.2.2, rfl, ha, d0, d1, fun H1 p1 dp1 s1 hp1 hp1' => ?_⟩
      refine ⟨_, rfl, p1, nb, dp1, dn, t, _, _, t, m2, j2, _, _, rfl, hp1', s1 _ _ hn, rfl, rfl, fun hlt => ?_, fun hge => ?_⟩
      · have el : learnt (some o) d t m2 j2 = (false, m2, j2) := by
          unfold learnt
          exact if_pos hlt
        rw [el] at q
        refine ⟨_, rfl, rfl, _, rfl, iteT ⟨_, rfl, _, rfl, ca, Z.Client, dx, _, rfl, s1 _ _ hc, T.cl_Client, T.na_Client_bounds, (by show 7 < 1000; decide), ?_⟩⟩
        rw [pf_Client_bounds]
        refine ⟨_, rfl, rfl, ?_⟩
        exact q _ nb dn (fun a o e z => by rw [upd_ne z]; exact s1 a o e) (.inl rfl) (by rw [upd_ne nn]; exact s1 _ _ hn) upd_same
      · intro H2 p2 dp2 s2 hp2 hp2'
        have el : learnt (some o) d t m2 j2 = (true, (if o.2.1 - (t - o.1) * d ≤ m2 then m2 else o.2.1 - (t - o.1) * d), (if o.2.2 + (t - o.1) * d ≤ j2 then o.2.2 + (t - o.1) * d else j2)) := by
          unfold learnt
          exact if_neg hge
        rw [el] at q
        have np : p2 ≠ ca := ne_of_none' (s1 _ _ hc) hp2
        refine ⟨_, rfl, rfl, _, rfl, ?_⟩
        rw [noN]
        refine iteF ⟨_, rfl, _, rfl, ca, Z.Client, dx, _, rfl, s2 _ _ (s1 _ _ hc), T.cl_Client, T.na_Client_bounds, (by show 7 < 1000; decide), ?_⟩
        rw [pf_Client_bounds]
        refine ⟨_, rfl, rfl, ?_⟩
        rw [noN]
        exact q _ p2 dp2 (fun a o e z => by rw [upd_ne z]; exact s2 a o (s1 a o e)) (.inr (s1.free hp2)) (by rw [upd_ne np]; exact hp2') upd_same
end MN
set_option Elab.async false
set_option maxRecDepth 100000
set_option maxHeartbeats 2000000
set_option linter.unusedVariables false
namespace MN
open PySem PySem.Spec PyProof.Rows L2
open Vbwsah (Input Numbered Known Client State Packet Ring Frac Clock)
variable {P : Program} {w : World} {K : PySem.W.Frag} {mg : Str → Option Value} {base : Heap} {Z : Cs}
/-! ### the drift -/
def spSomeClock (Z : Cs) : Sp := fun vs H Q _ => ∃ (na dx wa kd cd pd pl : Addr) (t dr : Int) (lc : List (Int × Addr)) (bs : List Bool), vs = [.ref na] ∧ H na = some (oNet Z dx wa t kd cd pd pl dr) ∧ H cd = some (.dK (encR lc)) ∧ lc.length ≤ 1000 ∧
  Paired (fun p y => ∃ dc n b lt wd im idd bo, H p.2 = some (oClient Z dc n b lt wd im idd bo) ∧ (!decide (bo = V.non)) = y) lc bs ∧ ∀ H', Same H H' → Q (.bl (bs.any id)) H'
theorem ok_Net_some_clock_is_known (T : Txt K mg Z) : MethOk P w K mg base Z.Net 1 "some_clock_is_known" ["self"] (spSomeClock Z) := by
  refine T.f_Net_some_clock_is_known.ok sc_Net_some_clock_is_known (fun vs H Q E h => ?_) (fun f cdv A outer s H vs Q E hr h => ⟨_, (pss_one (ps_ret (pe_lock (pe_callB (cr_any rfl) (by rfl) T.n_any (by decide +kernel) (pa_cons (pe_lc (te := tOp rNotN (tFld K (tVar 1) "bounds") (tC .non)) (own := [("client", 1)]) (g := gName 1) (tt := tYes) rfl sc_Net_some_clock_is_known.nd (pi_values (pe_fld (pv 0) rfl)) (blkOk_by (own := [("client", 1)]) (N := ["self", "client"]) (sc := defScope s_Net_some_clock_is_known) (by decide +kernel)) (fun _ _ _ _ _ => by exact pg_name (i := 1) sc_Net_some_clock_is_known.nd rfl (Or.inl rfl)) (fun _ _ _ _ _ => by exact pts_nil) (fun _ _ _ _ _ => by exact (pe_cmpR op_notN (pe_fld (pv 1) rfl) pe_non (nomark _)))) pa_nil))))), ?_⟩)
  · obtain ⟨na, dx, wa, kd, cd, pd, pl, t, dr, lc, bs, rfl, _⟩ := h; rfl
  · obtain ⟨na, dx, wa, kd, cd, pd, pl, t, dr, lc, bs, rfl, hn, hc, hl, pr, q⟩ := h
    have nn : na ≠ cd := ne_of hn hc (fun z => nomatch z)
    refine ⟨cd, .dK (encR lc), hc, trivial, fun od => ?_⟩
    have hx : upd H cd (.frz od (.dK (encR lc))) na = some (oNet Z dx wa t kd cd pd pl dr) := by rw [upd_ne nn]; exact hn
    refine ⟨_, rfl, na, Z.Net, dx, _, _, rfl, hx, T.cl_Net, T.na_Net_clients, lk_Net_clients, cd, od, encR lc, rfl, upd_same, fun D hD => ?_⟩
    have nD : cd ≠ D := ne_of_none upd_same hD
    have hl' : (encR lc).length = lc.length := encR_len lc
    have hlb := Paired.len pr
    refine lc_it walk_values (fun i H' => (∀ a o, upd H cd (.frz od (.dK (encR lc))) a = some o → H' a = some o) ∧ H' D = some (.lst ((bs.take i).map V.bl))) ⟨fun a o e => ?_, upd_same⟩ (fun i H' _ h => h.1 cd _ upd_same) ?_ ?_
    · rw [upd_ne (ne_of_none e hD)]; exact e
    · rintro i x H1 H2 hi ⟨fr, hD1⟩ ⟨rfl, k, hk⟩
      have hil : i < lc.length := by omega
      have hge : (encR lc)[i]? = some (ik lc[i].1, .ref lc[i].2) := by
        unfold encR
        rw [List.getElem?_map, List.getElem?_eq_getElem hil]; rfl
      rw [hge] at hk
      have ex : V.ref lc[i].2 = x := congrArg Prod.snd (Option.some.inj hk)
      subst ex
      obtain ⟨y, hy, dc, n, b, lt, wd, im, idd, bo, hcl, ey⟩ := Paired.at pr (List.getElem?_eq_getElem hil)
      have hcl2 : H2 lc[i].2 = some (oClient Z dc n b lt wd im idd bo) := fr _ _ (by rw [upd_ne (ne_of hcl hc (fun z => nomatch z))]; exact hcl)
      refine ⟨rfl, ⟨_, rfl, lc[i].2, Z.Client, dc, _, _, rfl, hcl2, T.cl_Client, T.na_Client_bounds, lk_Client_bounds, rfl, _, hD1, ?_, ?_⟩⟩
      · rw [List.length_map, List.length_take]
        exact sizeL (by omega)
      · have nDc : ∀ a o, upd H cd (.frz od (.dK (encR lc))) a = some o → a ≠ D := fun a o e => ne_of_none e hD
        refine ⟨fun a o e => by rw [upd_ne (nDc a o e)]; exact fr a o e, ?_⟩
        rw [upd_same, take_snoc hy, List.map_append, ey]; rfl
    · rintro H1 ⟨fr, hD1⟩
      rw [hl', hlb, List.take_length] at hD1
      refine ⟨D, _, rfl, SqL.of hD1, fr cd _ upd_same, ?_⟩
      refine q _ fun a o e => ?_
      by_cases z : a = cd
      · subst z
        rw [upd_same]
        rw [hc] at e; exact e
      · rw [upd_ne z]
        exact fr a o (by rw [upd_ne z]; exact e)
/-- another drift -/
theorem StA.setDrift {L : Lb} {H : Hp} {net : Addr} {s : State} {A : Ads} (h : StA Z L H net s A) (d : Nat) : StA Z L (upd H net (oNet Z A.dx A.wa (s.tick : Int) A.kd A.cd A.pd A.pl (d : Int))) net { s with drift := d } A ∧ Keep L OwnM H (upd H net (oNet Z A.dx A.wa (s.tick : Int) A.kd A.cd A.pd A.pl (d : Int))) := by
  have kp : Keep L (fun x => x = .net) H (upd H net (oNet Z A.dx A.wa (s.tick : Int) A.kd A.cd A.pd A.pl (d : Int))) := fun a o e n => by
    by_cases z : a = net
    · rw [z] at n; exact absurd rfl (n _ h.l0)
    · rw [upd_ne z]; exact e
  have ls := LSame.refl H L
  refine ⟨⟨h.l0, h.lw, h.lk, h.lc, h.lp, h.ll, upd_same, kp.of h.hw h.lw (by decide), h.rw, kp.of h.hk h.lk (by decide), h.rk.keep kp ls, kp.of h.hc h.lc (by decide), Paired.mapP h.rc fun p q c => c.keep kp ls (by simp) (by simp) (by simp), kp.of h.hp h.lp (by decide), Paired.mapP h.rp fun p q c => c.keep kp ls (by simp) (by simp) (by simp), kp.of h.hl h.ll (by decide),
    Paired.mapP h.rl fun p q c => c.keep kp ls, fun a n z => ?_⟩, fun a o e n => kp a o e fun y hy hm => n y hy (by intro z; rw [z] at hm; simp at hm)⟩
  by_cases e : a = net
  · rw [e, upd_same] at z; cases z
  · rw [upd_ne e] at z; exact h.lin a n z
theorem ok_set_drift (T : Txt K mg Z) : DefOk P w K mg base 2 "set_drift" ["net", "drift"] (fun vs H Q E => ∃ d : Int, spCall Z (.drift d) [.int d] vs H Q E) := by
  refine T.f_set_drift.ok sc_set_drift (fun vs H Q E h => ?_) (fun f cdv A outer s H vs Q E hr h => ⟨_, (pss_cons (ps_if (pt_not (pt_val (pe_def (ok_is_drift T) hr (pa_cons (pv 1) pa_nil)))) (pss_one (ps_ret (pe_lst (pa_cons (pe_gc T.c_OUT_OF_RANGE) pa_nil)))) pss_nil)
      (pss_cons (ps_if (pt_val (pe_m0 (ok_Net_some_clock_is_known T) T.cl_Net hr (pv 0))) (pss_one (ps_ret (pe_lst (pa_cons (pe_gc T.c_TAKEN) pa_nil)))) pss_nil)
      (pss_cons (ps_fld (pv 0) (pv 1) rfl)
      (pss_one (ps_ret (pe_lst (pa_cons pe_int pa_nil))))))), ?_⟩)
  · obtain ⟨d, L, net, s, n, hist, rfl, _⟩ := h; rfl
  · obtain ⟨d, L, net, st, n, hist, rfl, ⟨A, sa⟩, iv, hn, q⟩ := h
    have q : Wants Z (.drift d) L H net st Q := q
    have h0 := sa.h0
    by_cases c1 : inR 0 500 d = true
    · refine st_seq (st_n (ans_not (ans_val (val_B1 (val_var rfl)))) (by rw [c1]; rfl) ?_)
      have hd : 0 ≤ d ∧ d ≤ 500 := by
        unfold inR at c1
        simp only [Bool.and_eq_true, decide_eq_true_eq] at c1
        exact c1
      have hbs : Paired (fun p y => ∃ dc n b lt wd im idd bo, H p.2 = some (oClient Z dc n b lt wd im idd bo) ∧ (!decide (bo = V.non)) = y) A.lc (st.clients.map fun q => q.2.clock.isSome) := by
        have go : ∀ {l : List (Int × Addr)} {m : List (Nat × Client)}, Paired (ClAt Z L H) l m → Paired (fun p y => ∃ dc n b lt wd im idd bo, H p.2 = some (oClient Z dc n b lt wd im idd bo) ∧ (!decide (bo = V.non)) = y) l (m.map fun q => q.2.clock.isSome) := fun {l m} h => by
          induction h with
          | nil => exact .nil
          | @cons p q l m r t ih =>
            obtain ⟨dx, wd, idd, lw, li, bo, cp⟩ := r
            refine .cons ⟨dx, _, _, _, wd, _, idd, bo, cp.h1, ?_⟩ ih
            have rb := cp.rb
            show (!decide (bo = V.non)) = q.2.clock.isSome
            cases eo : q.2.clock with
            | none =>
              rw [eo] at rb
              rw [show bo = .non from rb]; rfl
            | some k =>
              rw [eo] at rb
              obtain ⟨a, dx, m, j, e, _⟩ := rb
              rw [e, decide_eq_false (fun z => nomatch z)]; rfl
        exact go sa.rc
      have hlc : A.lc.length = st.clients.length := Paired.len sa.rc
      have h4 := iv.four
      have hlen := iv.lenC
      have eany : ((st.clients.map fun q => q.2.clock.isSome).any id) = st.clients.any fun x => x.2.clock.isSome := by rw [List.any_map]; rfl
      have vtk : ∀ {σ : L2.St} {te : TE}, Val te σ H (.ref net) → AnsH (tB (tMeth Z.Net "some_clock_is_known" (spSomeClock Z) [] E0 te tNil)) σ H (st.clients.any fun x => x.2.clock.isSome) (Same H) := fun {σ te} v1 Q q => by
        refine v1 _ ⟨net, A.dx, _, rfl, h0, rfl, net, A.dx, A.wa, A.kd, A.cd, A.pd, A.pl, _, _, A.lc, _, rfl, h0, sa.hc, by omega, hbs, fun H' sm => ⟨_, rfl, ?_⟩⟩
        rw [eany]
        exact q H' sm
      have ein : Vbwsah.inside d 0 500 = true := c1
      have av := vtk (σ := [some (.ref net), some (.int d)]) (te := tVar 0) (val_var rfl)
      cases t1 : st.clients.any fun x => x.2.clock.isSome with
      | true =>
        rw [t1] at av
        refine st_seq (st_yesH av fun H1 sm => ?_)
        refine st_retL (fun Q q => q) (by decide) fun p hp => q.same sa (xs := [-3]) ?_ sm hp
        rw [Vbwsah.step, ein, if_neg (by decide), if_pos t1]; rfl
      | false =>
        rw [t1] at av
        refine st_seq (st_noH av fun H1 sm => ?_)
        have sb := sa.same sm
        obtain ⟨sc, kc⟩ := sb.setDrift d.toNat
        have ed : ((d.toNat : Nat) : Int) = d := by omega
        rw [ed] at sc kc
        refine ⟨_, rfl, _, rfl, net, Z.Net, A.dx, _, rfl, sb.h0, T.cl_Net, T.na_Net_drift, (by show 7 < 1000; decide), ?_⟩
        rw [pf_Net_drift]
        refine ⟨by decide, fun r hr => ?_⟩
        exact q.done (xs := [0]) (s' := { st with drift := d.toNat }) (by rw [Vbwsah.step, ein, if_neg (by decide), if_neg (by rw [t1]; decide)]) sc (fun a o e n => kc a o (sm a o e) n) hr
    · have c1 : inR 0 500 d = false := by simpa using c1
      refine st_seq (st_y (ans_not (ans_val (val_B1 (val_var rfl)))) (by rw [c1]; rfl) ?_)
      refine st_retL (fun Q q => q) (by decide) fun p hp => q.same sa (xs := [-2]) ?_ (Same.refl H) hp
      rw [Vbwsah.step, ← inR_inside, c1]; rfl
/-! ### what is known later -/
theorem fracRow_map (f g : Frac) : (Vbwsah.fracRow f ++ Vbwsah.fracRow g).map V.int = fracV f ++ fracV g := rfl
theorem ok_tell_offset (T : Txt K mg Z) : DefOk P w K mg base 4 "tell_offset" ["net", "number", "time"] (fun vs H Q E => ∃ c t : Int, spCall Z (.offset c t) [.int c, .int t] vs H Q E) := by
  refine T.f_tell_offset.ok sc_tell_offset (fun vs H Q E h => ?_) (fun f cdv A outer s H vs Q E hr h => ⟨_, (pss_cons (ps_if (pt_cmp (pc_dnotin (hu_of hr) (pv 1) (pe_fld (pv 0) rfl))) (pss_one (ps_ret (pe_lst (pa_cons (pe_gc T.c_NO_SUCH) pa_nil)))) pss_nil)
      (pss_cons (ps_set (i := 3) sc_tell_offset.nd rfl (Or.inl rfl) (pe_dget (hu_of hr) (pe_fld (pv 0) rfl) (pv 1) (fun _ _ => rfl)))
      (pss_cons (ps_if (pt_cmpR op_isN (pe_fld (pv 3) rfl) pe_non (nomark _)) (pss_one (ps_ret (pe_lst (pa_cons (pe_gc T.c_NOTHING_KNOWN) pa_nil)))) pss_nil)
      (pss_cons (ps_if (pt_not (pt_chain op_le op_le (pe_fld (pe_fld (pv 3) rfl) rfl) (pv 2) (pe_gc T.c_GREATEST_TIME))) (pss_one (ps_ret (pe_lst (pa_cons (pe_gc T.c_OUT_OF_RANGE) pa_nil)))) pss_nil)
      (pss_one (ps_ret (pe_op op_cat (pe_lst (pa_cons pe_int pa_nil)) (pe_m0 (ok_Bounds_told T) T.cl_Bounds hr (pe_m (ok_Bounds_later T) T.cl_Bounds hr (pe_fld (pv 3) rfl) (pa_cons (pv 2) (pa_cons (pe_fld (pv 0) rfl) pa_nil))))))))))), ?_⟩)
  · obtain ⟨c, t, L, net, s, n, hist, rfl, _⟩ := h; rfl
  · obtain ⟨c, t, L, net, st, n, hist, rfl, ⟨A, sa⟩, iv, hn, q⟩ := h
    have q : Wants Z (.offset c t) L H net st Q := q
    have h0 := sa.h0
    rcases sa.onCl iv c with ⟨no, e1, e2⟩ | ⟨k, p, p', x, x', l1, l2, l1', l2', m1, m2, m1', m2', rfl, s1, s2, on⟩
    · refine st_seq (st_y (val_dnotin (val_var rfl) (val_net (f := "clients") (val_var rfl) h0 T T.na_Net_clients lk_Net_clients) sa.hc) (by rw [e1]; rfl) ?_)
      refine st_retL (fun Q q => q) (by decide) fun p hp => q.same sa (xs := [-1]) ?_ (Same.refl H) hp
      rw [Vbwsah.step, no]
    refine st_seq (st_n (val_dnotin (val_var rfl) (val_net (f := "clients") (val_var rfl) h0 T T.na_Net_clients lk_Net_clients) sa.hc) (by rw [s1.val]; rfl) ?_)
    obtain ⟨dx, wd, idd, lw, li, bo, cp⟩ := s1.r
    refine st_seq (st_set (val_dget (val_net (f := "clients") (val_var rfl) h0 T T.na_Net_clients lk_Net_clients) (val_var rfl) sa.hc s1.val) ?_)
    have rb := cp.rb
    cases eo : x.clock with
    | none =>
      rw [show (k, x).2.clock = x.clock from rfl, eo] at rb
      have eb : bo = .non := rb
      subst eb
      refine st_seq ⟨_, rfl, p.2, Z.Client, dx, _, _, rfl, cp.h1, T.cl_Client, T.na_Client_bounds, lk_Client_bounds, rfl, _, rfl, iteT ?_⟩
      refine st_retL (fun Q q => q) (by decide) fun p hp => q.same sa (xs := [-9]) ?_ (Same.refl H) hp
      rw [Vbwsah.step, on]
      dsimp only
      rw [eo]; rfl
    | some ck =>
      rw [show (k, x).2.clock = x.clock from rfl, eo] at rb
      obtain ⟨a, da, m, j, rfl, la, ha, ok⟩ := rb
      have vb : ∀ {σ : L2.St} {te : TE}, Val te σ H (.ref p.2) → Val (tFld K te "bounds") σ H (.ref a) := fun {σ te} v => val_fld v cp.h1 T.cl_Client T.na_Client_bounds lk_Client_bounds
      have vt : ∀ {σ : L2.St} {te : TE}, Val te σ H (.ref p.2) → Val (tFld K (tFld K te "bounds") "time") σ H (.int ck.time) := fun {σ te} v => val_fld (vb v) ha T.cl_Bounds T.na_Bounds_time lk_Bounds_time
      refine st_seq ⟨_, rfl, p.2, Z.Client, dx, _, _, rfl, cp.h1, T.cl_Client, T.na_Client_bounds, lk_Client_bounds, rfl, _, rfl, ?_⟩
      rw [decide_eq_false (fun z => nomatch z)]
      refine iteF ?_
      by_cases c1 : inR ck.time 1000000000 t = true
      · refine st_seq (st_n (ans_not (ans_test (ans_chainLe (vt (val_var rfl)) (val_var rfl) val_c))) (by rw [c1]; rfl) ?_)
        have hd := iv.drift
        refine ⟨(by show 1 ≤ sizeLine; decide), fun C hC => ?_⟩
        have s0 : Same H (upd H C (.lst [.int 0])) := Same.new hC
        refine ⟨_, rfl, p.2, Z.Client, dx, _, _, rfl, s0 _ _ cp.h1, T.cl_Client, T.na_Client_bounds, lk_Client_bounds, a, da, _, rfl, s0 _ _ ha, nm_Bounds_later, _, rfl, _, rfl, net, Z.Net, A.dx, _, _, rfl, s0 _ _ h0, T.cl_Net, T.na_Net_drift, lk_Net_drift, a, da, t, (st.drift : Int), ck.time, m, j, rfl, s0 _ _ ha, by omega, by omega, fun H1 b1 db1 sm1 hb1 hb1' => ?_⟩
        refine ⟨b1, db1, _, rfl, hb1', nm_Bounds_told, b1, db1, t, _, _, rfl, hb1', fun H2 p2 sm2 hp2 hp2' => ?_⟩
        refine ⟨C, p2, _, _, rfl, rfl, sm2 _ _ (sm1 _ _ upd_same), hp2', (by show 5 ≤ sizeLine; decide), fun r hr => ?_⟩
        have est : Vbwsah.step st (.offset (k : Int) t) = (st, 0 :: (Vbwsah.fracRow (Frac.made (m - (t - ck.time) * (st.drift : Int)) 1000) ++ Vbwsah.fracRow (Frac.made (j + (t - ck.time) * (st.drift : Int)) 1000))) := by
          rw [Vbwsah.step, on]
          dsimp only
          rw [eo]
          dsimp only
          rw [if_neg (by rw [show Vbwsah.inside t ck.time 1000000000 = true from c1]; decide), later_th st.drift ok t, Int.mul_comm (st.drift : Int)]; rfl
        exact q.same sa est (s0.trans (sm1.trans sm2)) hr
      · have c1 : inR ck.time 1000000000 t = false := by simpa using c1
        refine st_seq (st_y (ans_not (ans_test (ans_chainLe (vt (val_var rfl)) (val_var rfl) val_c))) (by rw [c1]; rfl) ?_)
        refine st_retL (fun Q q => q) (by decide) fun p hp => q.same sa (xs := [-2]) ?_ (Same.refl H) hp
        rw [Vbwsah.step, on]
        dsimp only
        rw [eo]
        dsimp only
        rw [if_pos (show Vbwsah.inside t ck.time 1000000000 = false from c1)]; rfl
end MN
set_option Elab.async false
set_option maxRecDepth 100000
set_option maxHeartbeats 2000000
set_option linter.unusedVariables false
namespace MN
open PySem PySem.Spec PyProof.Rows L2
open Vbwsah (Input Numbered Known Client State Packet Ring Frac Clock)
variable {P : Program} {w : World} {K : PySem.W.Frag} {mg : Str → Option Value} {base : Heap} {Z : Cs}
theorem ans_orB {t u : TT} {σ : L2.St} {H : Hp} {b1 b2 : Bool} (h1 : Ans t σ H b1) (h2 : Ans u σ H b2) : Ans (tOr t u) σ H (b1 || b2) := by
  cases b1 with
  | true => exact ans_or1 h1
  | false => exact ans_or h1 h2
/-- a clock as a time and two bounds -/
def ClkIs (o : Option Clock) (y : Option (Int × Int × Int)) : Prop := match o, y with
  | none, none => True
  | some k, some z => z.1 = k.time ∧ ClockOk k z.2.1 z.2.2
  | _, _ => False
theorem BoAt.is {L : Lb} {H : Hp} {bo : V} {o : Option Clock} (h : BoAt Z L H bo o) : ∃ y, ClkIs o y ∧ BoIs Z H bo y := by
  cases o with
  | none => exact ⟨none, trivial, h⟩
  | some k =>
    obtain ⟨a, dx, m, j, e, l, ha, ok⟩ := h
    exact ⟨some (k.time, m, j), ⟨rfl, ok⟩, a, dx, e, ha⟩
theorem ClkIs.later {o : Option Clock} {y : Option (Int × Int × Int)} (h : ClkIs o y) (b : Int) : (y.any fun z => decide (b < z.1)) = o.any fun k => decide (b < k.time) := by
  cases o <;> cases y
  · rfl
  · exact h.elim
  · exact h.elim
  · show decide _ = decide _
    rw [h.1]
/-- what the specification knows behind an exchange, in thousandths -/
theorem learnt_is {o : Option Clock} {y : Option (Int × Int × Int)} (h : ClkIs o y) {d : Nat} (hd : d ≤ 500) {a s b : Int} (ha : 0 ≤ a ∧ a ≤ 1000000000) (hs : 0 ≤ s ∧ s ≤ 1000000000) (hb : 0 ≤ b ∧ b ≤ 1000000000) (hab : a ≤ b) :
    ∃ k, (match Vbwsah.known d o a s b with | some k => (true, k) | none => (false, Vbwsah.exchanged d a s b)) = ((learnt y (d : Int) b ((s - b) * 1000) ((s - a) * 1000 + (b - a) * (d : Int))).1, k) ∧ k.time = b ∧
      ClockOk k (learnt y (d : Int) b ((s - b) * 1000) ((s - a) * 1000 + (b - a) * (d : Int))).2.1 (learnt y (d : Int) b ((s - b) * 1000) ((s - a) * 1000 + (b - a) * (d : Int))).2.2 := by
  have ex := exchanged_ok hd ha hs hb hab
  rw [Int.mul_comm (d : Int)] at ex
  have et : (Vbwsah.exchanged d a s b).time = b := rfl
  cases o with
  | none =>
    cases y with
    | some z => exact h.elim
    | none => exact ⟨Vbwsah.exchanged d a s b, rfl, et, ex⟩
  | some c =>
    cases y with
    | none => exact h.elim
    | some z =>
      obtain ⟨e1, ok⟩ := h
      rw [known_some ok]
      unfold learnt
      dsimp only
      rw [e1, Int.mul_comm (d : Int), Int.mul_comm (d : Int)]
      have g := gain_le (t := b - a) hd (by omega) (by omega)
      rw [Int.mul_comm (d : Int)] at g
      generalize e3 : (if z.2.1 - (b - c.time) * (d : Int) ≤ (s - b) * 1000 then (s - b) * 1000 else z.2.1 - (b - c.time) * (d : Int)) = m3
      generalize e4 : (if z.2.2 + (b - c.time) * (d : Int) ≤ (s - a) * 1000 + (b - a) * (d : Int) then z.2.2 + (b - c.time) * (d : Int) else (s - a) * 1000 + (b - a) * (d : Int)) = j3
      by_cases q : j3 < m3
      · rw [if_pos q, if_pos q]
        exact ⟨_, rfl, et, ex⟩
      · rw [if_neg q, if_neg q]
        refine ⟨_, rfl, rfl, rfl, rfl, ?_, by show m3 ≤ j3; omega, ?_, hb.1, hb.2⟩
        · show -1000000000000 ≤ m3
          split at e3 <;> omega
        · show j3 ≤ 1500000000000
          split at e4 <;> omega
theorem val_knows {σ : L2.St} {H : Hp} {ta tb : TE} {ca dx wd idd : Addr} {bo : V} {n b lt im t : Int} {o : Option (Int × Int × Int)} (h1 : Val ta σ H (.ref ca)) (h2 : Val tb σ H (.int t)) (hc : H ca = some (oClient Z dx n b lt wd im idd bo)) (hb : BoIs Z H bo o) :
    Val (tMeth Z.Client "knows_later_than" (spKnows Z) [] E0 ta (tCons tb tNil)) σ H (.bl (o.any fun y => decide (t < y.1))) := fun Q q =>
  h1 _ ⟨ca, dx, _, rfl, hc, rfl, h2 _ ⟨ca, dx, wd, idd, bo, n, b, lt, im, t, o, rfl, hc, hb, q⟩⟩
theorem ok_exchange (T : Txt K mg Z) : DefOk P w K mg base 5 "exchange" ["net", "number", "a", "s", "b"] (fun vs H Q E => ∃ c a s b : Int, spCall Z (.exchange c a s b) [.int c, .int a, .int s, .int b] vs H Q E) := by
  refine T.f_exchange.ok sc_exchange (fun vs H Q E h => ?_) (fun f cdv A outer s H vs Q E hr h => ⟨_, (pss_cons (ps_if (pt_cmp (pc_dnotin (hu_of hr) (pv 1) (pe_fld (pv 0) rfl))) (pss_one (ps_ret (pe_lst (pa_cons (pe_gc T.c_NO_SUCH) pa_nil)))) pss_nil)
      (pss_cons (ps_set (i := 5) sc_exchange.nd rfl (Or.inl rfl) (pe_dget (hu_of hr) (pe_fld (pv 0) rfl) (pv 1) (fun _ _ => rfl)))
      (pss_cons (ps_if (pt_not (PW.pt (pw_and (pt_val (pe_def (ok_is_clock_time T) hr (pa_cons (pv 2) pa_nil))) (pw_and (pt_val (pe_def (ok_is_clock_time T) hr (pa_cons (pv 3) pa_nil))) (pw_and1 (pt_val (pe_def (ok_is_clock_time T) hr (pa_cons (pv 4) pa_nil)))))))) (pss_one (ps_ret (pe_lst (pa_cons (pe_gc T.c_OUT_OF_RANGE) pa_nil)))) pss_nil)
      (pss_cons (ps_if (PW.pt (pw_or (pt_cmpR op_lt (pv 4) (pv 2) (nomark _)) (pw_or1 (pt_val (pe_m (ok_Client_knows_later_than T) T.cl_Client hr (pv 5) (pa_cons (pv 4) pa_nil)))))) (pss_one (ps_ret (pe_lst (pa_cons (pe_gc T.c_OUT_OF_RANGE) pa_nil)))) pss_nil)
      (pss_cons (ps_set (i := 6) sc_exchange.nd rfl (Or.inl rfl) (pe_m (ok_Client_learn_bounds T) T.cl_Client hr (pv 5) (pa_cons (pe_def (ok_bounds_of_exchange T) hr (pa_cons (pv 2) (pa_cons (pv 3) (pa_cons (pv 4) (pa_cons (pe_fld (pv 0) rfl) pa_nil))))) (pa_cons (pe_fld (pv 0) rfl) pa_nil))))
      (pss_one (ps_ret (pe_op op_cat (pe_lst (pa_cons pe_int (pa_cons (pe_ifExp (pt_val (pv 6)) pe_int pe_int) pa_nil))) (pe_m0 (ok_Bounds_told T) T.cl_Bounds hr (pe_fld (pv 5) rfl)))))))))), ?_⟩)
  · obtain ⟨c, a, s, b, L, net, s, n, hist, rfl, _⟩ := h; rfl
  · obtain ⟨c, a, sv, b, L, net, st, n, hist, rfl, ⟨A, sa⟩, iv, hn, q⟩ := h
    have q : Wants Z (.exchange c a sv b) L H net st Q := q
    have h0 := sa.h0
    rcases sa.onCl iv c with ⟨no, e1, e2⟩ | ⟨k, p, p', x, x', l1, l2, l1', l2', m1, m2, m1', m2', rfl, s1, s2, on⟩
    · refine st_seq (st_y (val_dnotin (val_var rfl) (val_net (f := "clients") (val_var rfl) h0 T T.na_Net_clients lk_Net_clients) sa.hc) (by rw [e1]; rfl) ?_)
      refine st_retL (fun Q q => q) (by decide) fun p hp => q.same sa (xs := [-1]) ?_ (Same.refl H) hp
      rw [Vbwsah.step, no]
    refine st_seq (st_n (val_dnotin (val_var rfl) (val_net (f := "clients") (val_var rfl) h0 T T.na_Net_clients lk_Net_clients) sa.hc) (by rw [s1.val]; rfl) ?_)
    obtain ⟨dx, wd, idd, lw, li, bo, cp⟩ := s1.r
    obtain ⟨y, ck, bi⟩ := cp.rb.is
    have ck : ClkIs x.clock y := ck
    refine st_seq (st_set (val_dget (val_net (f := "clients") (val_var rfl) h0 T T.na_Net_clients lk_Net_clients) (val_var rfl) sa.hc s1.val) ?_)
    have est : Vbwsah.step st (.exchange (k : Int) a sv b) = if (inR 0 1000000000 a && (inR 0 1000000000 sv && inR 0 1000000000 b)) = true then (if (decide (b < a) || y.any fun z => decide (b < z.1)) = true then (st, [-2]) else
        match Vbwsah.known st.drift x.clock a sv b with
        | some c => (Vbwsah.setClient st k { x with clock := some c }, 0 :: 1 :: Vbwsah.fracRow c.lo ++ Vbwsah.fracRow c.hi)
        | none => (Vbwsah.setClient st k { x with clock := some (Vbwsah.exchanged st.drift a sv b) }, 0 :: 0 :: Vbwsah.fracRow (Vbwsah.exchanged st.drift a sv b).lo ++ Vbwsah.fracRow (Vbwsah.exchanged st.drift a sv b).hi)) else (st, [-2]) := by
      rw [Vbwsah.step, on, ck.later]
      have e2 : ([a, sv, b].all fun z => Vbwsah.inside z 0 1000000000) = (inR 0 1000000000 a && (inR 0 1000000000 sv && inR 0 1000000000 b)) := by
        simp only [List.all_cons, List.all_nil, Bool.and_true]; rfl
      rw [e2]
      cases inR 0 1000000000 a && (inR 0 1000000000 sv && inR 0 1000000000 b) with
      | false => rfl
      | true =>
        rw [if_pos rfl]
        by_cases c0 : (decide (b < a) || x.clock.any fun k => decide (b < k.time)) = true
        · rw [if_pos c0, if_pos]
          · rfl
          · rw [Bool.or_eq_true, decide_eq_true_eq] at c0
            exact .inr c0
        · rw [if_neg c0, if_neg]
          · rfl
          · rw [Bool.or_eq_true, decide_eq_true_eq] at c0
            intro z
            rcases z with z | z
            · cases z
            · exact c0 z
    by_cases c1 : (inR 0 1000000000 a && (inR 0 1000000000 sv && inR 0 1000000000 b)) = true
    · rw [if_pos c1] at est
      refine st_seq (st_n (ans_not (ans_and2 (ans_val (val_B1 (val_var rfl))) (ans_and2 (ans_val (val_B1 (val_var rfl))) (ans_val (val_B1 (val_var rfl)))))) (by rw [c1]; rfl) ?_)
      have a2 : Ans (tOr (tTest (tOp (rI0 fun i j => .bl (decide (i < j))) (tVar 4) (tVar 2))) (tB (tMeth Z.Client "knows_later_than" (spKnows Z) [] E0 (tVar 5) (tCons (tVar 4) tNil)))) [some (.ref net), some (.int (k : Int)), some (.int a), some (.int sv), some (.int b), some (.ref p.2), none] H (decide (b < a) || y.any fun z => decide (b < z.1)) :=
        ans_orB (ans_cmp (val_var rfl) (val_var rfl) fun Q q => ⟨_, _, rfl, rfl, q⟩) (ans_val (val_knows (val_var rfl) (val_var rfl) cp.h1 bi))
      by_cases c2 : (decide (b < a) || y.any fun z => decide (b < z.1)) = true
      · rw [if_pos c2] at est
        refine st_seq (st_y a2 c2 ?_)
        exact st_retL (fun Q q => q) (by decide) fun p hp => q.same sa (xs := [-2]) est (Same.refl H) hp
      · rw [if_neg c2] at est
        refine st_seq (st_n a2 (by simpa using c2) ?_)
        have hr3 : (0 ≤ a ∧ a ≤ 1000000000) ∧ (0 ≤ sv ∧ sv ≤ 1000000000) ∧ (0 ≤ b ∧ b ≤ 1000000000) := by
          unfold inR at c1
          simp only [Bool.and_eq_true, decide_eq_true_eq] at c1
          exact ⟨c1.1, c1.2.1, c1.2.2⟩
        have hab : a ≤ b := by
          rw [Bool.or_eq_true, decide_eq_true_eq] at c2
          omega
        obtain ⟨ck', ek, etm, okk⟩ := learnt_is ck iv.drift hr3.1 hr3.2.1 hr3.2.2 hab
        have hd := iv.drift
        generalize elr : learnt y (st.drift : Int) b ((sv - b) * 1000) ((sv - a) * 1000 + (b - a) * (st.drift : Int)) = lr at ek okk
        have est2 : Vbwsah.step st (.exchange (k : Int) a sv b) = (Vbwsah.setClient st k { x with clock := some ck' }, 0 :: (if lr.1 = true then 1 else 0) :: (Vbwsah.fracRow (Frac.made lr.2.1 1000) ++ Vbwsah.fracRow (Frac.made lr.2.2 1000))) := by
          rw [est, ← okk.lo, ← okk.hi]
          cases ekn : Vbwsah.known st.drift x.clock a sv b with
          | some c =>
            rw [ekn] at ek
            obtain ⟨z1, z2⟩ := Prod.mk.inj ek
            rw [← z1, ← z2]; rfl
          | none =>
            rw [ekn] at ek
            obtain ⟨z1, z2⟩ := Prod.mk.inj ek
            rw [← z1, ← z2]; rfl
        refine ⟨_, rfl, p.2, dx, _, rfl, cp.h1, nm_Client_learn_bounds, _, rfl, _, rfl, _, rfl, _, rfl, net, Z.Net, A.dx, _, _, rfl, h0, T.cl_Net, T.na_Net_drift, lk_Net_drift, a, sv, b, (st.drift : Int), rfl, by omega, by omega, fun H1 nb dn sm1 hnb hnb' => ?_⟩
        have nnc : nb ≠ p.2 := ne_of_none' cp.h1 hnb
        have sb := sa.same sm1
        refine ⟨_, rfl, net, Z.Net, A.dx, _, _, rfl, sb.h0, T.cl_Net, T.na_Net_drift, lk_Net_drift, p.2, dx, wd, idd, nb, dn, bo, _, _, _, _, (st.drift : Int), b, _, _, y, rfl, sm1 _ _ cp.h1, hnb', bi.same sm1, nnc, by omega, by omega, fun H2 pb dp fr hpb hpb' hca => ?_⟩
        rw [elr] at hpb' ⊢
        have kp : Keep L OwnM H1 H2 := fun a o e n => fr a o e fun z => n (.cl k) (by rw [z]; exact cp.l1) (by nofun)
        have lsm := LSame.refl H1 L
        have lpb : L pb = none := by
          rcases hpb with z | z
          · rw [z]; exact sa.fresh hnb
          · exact sb.fresh z
        have pwd : wd ≠ p.2 := Ne.symm (ne_of cp.h1 cp.h2 (fun z => nomatch z))
        have pid : idd ≠ p.2 := Ne.symm (ne_of cp.h1 cp.h3 (fun z => nomatch z))
        have k0 : Keep L OwnM H H1 := Same.keep sm1
        have l0 := LSame.refl H L
        have cp1 : ClP Z L H1 p (k, x) dx wd idd lw li bo := ⟨cp.num, cp.l1, cp.l2, cp.l3, sm1 _ _ cp.h1, sm1 _ _ cp.h2, cp.r2.keep k0 l0, sm1 _ _ cp.h3, cp.r3.keep k0 l0, cp.rb.keep k0 l0⟩
        have s1' : Split (ClAt Z L H1) A.lc st.clients k p x l1 l2 m1 m2 := by
          refine ⟨⟨dx, wd, idd, lw, li, bo, cp1⟩, s1.num, s1.el, s1.em, ?_, ?_, s1.n1, s1.n2, s1.fnd, s1.val⟩
          · exact Paired.mapP s1.p1 fun p q c => ClAt.keep (M := fun _ => False) c (Same.keep sm1) l0 id id id
          · exact Paired.mapP s1.p2 fun p q c => ClAt.keep (M := fun _ => False) c (Same.keep sm1) l0 id id id
        obtain ⟨sc, kc⟩ := sb.setCl s1' (x' := { x with clock := some ck' }) cp1 (H' := H2) (lw' := lw) (li' := li) (bo' := .ref pb) (fun a o e z1 _ _ => fr a o e z1) hca (fr _ _ cp1.h2 pwd) (cp1.r2.keep kp lsm) (fr _ _ cp1.h3 pid) (cp1.r3.keep kp lsm) ⟨pb, dp, lr.2.1, lr.2.2, rfl, lpb, by rw [etm]; exact hpb', okk⟩
        -- the answer
        have elt : ∀ {σ : L2.St}, σ[6]? = some (some (.bl lr.1)) → Val (tIf (tB (tVar 6)) (tC (.int 1)) (tC (.int 0))) σ H2 (.int (if lr.1 = true then 1 else 0)) := fun {σ} h6 Q q => by
          refine ⟨_, h6, _, rfl, ?_⟩
          cases e : lr.1 with
          | true => rw [e] at q; exact iteT q
          | false => rw [e] at q; exact iteF q
        refine elt rfl _ ?_
        refine ⟨(by show 2 ≤ sizeLine; decide), fun C hC => ?_⟩
        have sm2 : Same H2 (upd H2 C (.lst [.int 0, .int (if lr.1 = true then 1 else 0)])) := Same.new hC
        refine ⟨_, rfl, p.2, Z.Client, dx, _, _, rfl, sm2 _ _ hca, T.cl_Client, T.na_Client_bounds, lk_Client_bounds, pb, dp, _, rfl, sm2 _ _ hpb', nm_Bounds_told, pb, dp, b, lr.2.1, lr.2.2, rfl, sm2 _ _ hpb', fun H3 p3 sm3 hp3 hp3' => ?_⟩
        refine ⟨C, p3, _, _, rfl, rfl, sm3 _ _ upd_same, hp3', (by show 6 ≤ sizeLine; decide), fun r hr => ?_⟩
        exact q.done est2 (sc.same (sm2.trans sm3)) (fun a o e n => sm3 a o (sm2 a o (kc a o (sm1 a o e) n))) hr
    · rw [if_neg c1] at est
      refine st_seq (st_y (ans_not (ans_and2 (ans_val (val_B1 (val_var rfl))) (ans_and2 (ans_val (val_B1 (val_var rfl))) (ans_val (val_B1 (val_var rfl)))))) (by
        have c1 : (inR 0 1000000000 a && (inR 0 1000000000 sv && inR 0 1000000000 b)) = false := by simpa using c1
        rw [c1]; rfl) ?_)
      exact st_retL (fun Q q => q) (by decide) fun p hp => q.same sa (xs := [-2]) est (Same.refl H) hp
end MN
set_option Elab.async false
set_option maxRecDepth 100000
set_option maxHeartbeats 2000000
set_option linter.unusedVariables false
namespace MN
open PySem PySem.Spec PyProof.Rows L2
open Vbwsae (Change)
open Vbwsah (Input Numbered Known Client State Packet Ring)
variable {P : Program} {w : World} {K : PySem.W.Frag} {mg : Str → Option Value} {base : Heap} {Z : Cs}
def spToldV : Sp := fun vs H Q _ => ∃ o : Option Int, vs = [optV o] ∧ ∀ p, H p = none → Q (.ref p) (upd H p (.lst ((Vbwsah.optRow o).map V.int)))
theorem ok_told_value (T : Txt K mg Z) : DefOk P w K mg base 1 "told_value" ["value"] spToldV := by
  refine T.f_told_value.ok sc_told_value (fun vs H Q E h => ?_) (fun f cdv A outer s H vs Q E hr h => ⟨_, (pss_cons (ps_if (pt_cmpR op_isN (pv 0) pe_non (nomark _)) (pss_one (ps_ret (pe_lst (pa_cons pe_int (pa_cons pe_int pa_nil))))) pss_nil)
      (pss_one (ps_ret (pe_lst (pa_cons pe_int (pa_cons (pv 0) pa_nil)))))), ?_⟩)
  · obtain ⟨o, rfl, _⟩ := h; rfl
  · obtain ⟨o, rfl, q⟩ := h
    refine ⟨_, rfl, rfl, _, rfl, ?_⟩
    cases o with
    | none => exact iteT ⟨(by show 2 ≤ sizeLine; decide), q⟩
    | some v =>
      rw [decide_eq_false (show ¬ optV (some v) = V.non from fun z => nomatch z)]
      exact iteF ⟨_, rfl, (by show 2 ≤ sizeLine; decide), q⟩
def chRow (c : Change Int) : List Int := (c.key : Int) :: (Vbwsah.optRow c.old ++ Vbwsah.optRow c.new)
theorem optRow_len (o : Option Int) : (Vbwsah.optRow o).length = 2 := by cases o <;> rfl
theorem chRow_len (c : Change Int) : (chRow c).length = 5 := by
  unfold chRow
  rw [List.length_cons, List.length_append, optRow_len, optRow_len]
theorem flat_len {α : Type} {f : α → List Int} {k : Nat} (h : ∀ a, (f a).length = k) : ∀ l : List α, (l.flatMap f).length = k * l.length
  | [] => rfl
  | a :: l => by
    rw [List.flatMap_cons, List.length_append, flat_len h l, h, List.length_cons, Nat.mul_add]; omega
theorem flat_take {α : Type} {f : α → List Int} {l : List α} {i : Nat} {x : α} (h : l[i]? = some x) : (l.take (i + 1)).flatMap f = (l.take i).flatMap f ++ f x := by
  rw [take_snoc h, List.flatMap_append]
  simp
def spToldDown (Z : Cs) : Sp := fun vs H Q _ => ∃ (a dx ch : Addr) (c t b : Nat) (rs : List Addr) (ds : List (Change Int)), vs = [.ref a] ∧ H a = some (oDown Z dx (c : Int) (t : Int) (b : Int) ch) ∧ H ch = some (.lst (rs.map V.ref)) ∧ Paired (ChgAt H) rs ds ∧ ds.length ≤ 1000 ∧
  ∀ H' p, Same H H' → H p = none → H' p = some (.lst ((Vbwsah.packetRow (.down c t b ds)).map V.int)) → Q (.ref p) H'
theorem ok_told_down (T : Txt K mg Z) : DefOk P w K mg base 2 "told_down" ["packet"] (spToldDown Z) := by
  refine T.f_told_down.ok sc_told_down (fun vs H Q E h => ?_) (fun f cdv A outer s H vs Q E hr h => ⟨_, (pss_cons (ps_set (i := 1) sc_told_down.nd rfl (Or.inl rfl) (pe_lst (pa_cons pe_int (pa_cons (pe_fld (pv 0) rfl) (pa_cons (pe_fld (pv 0) rfl) (pa_cons (pe_fld (pv 0) rfl) (pa_cons (pe_callB call_len_seq (by rfl) T.n_len (by decide +kernel) (pa_cons (pe_fld (pv 0) rfl) pa_nil)) pa_nil)))))))
      (pss_cons (ps_for PassesOwn.never rfl (pi_list (pe_fld (pv 0) rfl)) (pg_tup rfl (pgs_cons (pg_name (i := 2) sc_told_down.nd rfl (Or.inl rfl)) (pgs_cons (pg_name (i := 3) sc_told_down.nd rfl (Or.inl rfl)) (pgs_cons (pg_name (i := 4) sc_told_down.nd rfl (Or.inl rfl)) pgs_nil)))) (pss_cons (ps_expr (pe_bm PySem.F.plainAttrs_list PySem.F.slot_list_append PySem.F.type_list_append mt_append (pv 1) (pa_cons (pv 2) pa_nil)))
      (pss_cons (ps_expr (pe_bm PySem.F.plainAttrs_list PySem.F.slot_list_extend PySem.F.type_list_extend mt_extend (pv 1) (pa_cons (pe_def (ok_told_value T) hr (pa_cons (pv 3) pa_nil)) pa_nil)))
      (pss_one (ps_expr (pe_bm PySem.F.plainAttrs_list PySem.F.slot_list_extend PySem.F.type_list_extend mt_extend (pv 1) (pa_cons (pe_def (ok_told_value T) hr (pa_cons (pv 4) pa_nil)) pa_nil)))))))
      (pss_one (ps_ret (pv 1))))), ?_⟩)
  · obtain ⟨a, dx, ch, c, t, b, rs, ds, rfl, _⟩ := h; rfl
  · obtain ⟨a, dx, ch, c, t, b, rs, ds, rfl, ha, hch, pr, hz, q⟩ := h
    have hlen : rs.length = ds.length := Paired.len pr
    refine ⟨_, rfl, a, Z.Down, dx, _, _, rfl, ha, T.cl_Down, T.na_Down_client, lk_Down_client, _, rfl, a, Z.Down, dx, _, _, rfl, ha, T.cl_Down, T.na_Down_tick, lk_Down_tick, _, rfl, a, Z.Down, dx, _, _, rfl, ha, T.cl_Down, T.na_Down_base, lk_Down_base, _, rfl, a, Z.Down, dx, _, _, rfl, ha, T.cl_Down, T.na_Down_changes, lk_Down_changes, ch, _, rfl, .inl (SqL.of hch), ?_⟩
    refine ⟨(by show 5 ≤ sizeLine; decide), fun C hC => ?_⟩
    rw [List.length_map, hlen]
    have s0 : Same H (upd H C (.lst [.int 0, .int (c : Int), .int (t : Int), .int (b : Int), .int (ds.length : Int)])) := Same.new hC
    refine ⟨_, rfl, a, Z.Down, dx, _, _, rfl, s0 _ _ ha, T.cl_Down, T.na_Down_changes, lk_Down_changes, ch, rfl, ⟨_, SqL.of (s0 _ _ hch)⟩, for_list (K := K) (a := ch) (xs := rs.map V.ref) (fun i σ H' => ∃ (v2 v3 v4 : Option V), σ = [some (.ref a), some (.ref C), v2, v3, v4] ∧ Same H H' ∧
      H' C = some (.lst (([0, (c : Int), (t : Int), (b : Int), (ds.length : Int)] ++ (ds.take i).flatMap chRow).map V.int))) ⟨none, none, none, rfl, s0, upd_same⟩ (fun i σ H' _ ⟨_, _, _, _, s1, _⟩ => SqL.of (s1 _ _ hch)) ?_ ?_⟩
    · rintro i x σ H' hi ⟨v2, v3, v4, rfl, sm, hC'⟩
      rw [List.getElem?_map] at hi
      cases er : rs[i]? with
      | none => rw [er] at hi; cases hi
      | some r =>
        rw [er] at hi
        cases hi
        obtain ⟨d, hdi, hr⟩ := Paired.at pr er
        have hr' : H' r = some (.tup [.int (d.key : Int), optV d.old, optV d.new]) := sm _ _ hr
        have hil : i < ds.length := (List.getElem?_eq_some_iff.mp hdi).1
        have hfl : ((ds.take i).flatMap chRow).length ≤ 5000 := by
          rw [flat_len chRow_len, List.length_take]; omega
        generalize hrow : [0, (c : Int), (t : Int), (b : Int), (ds.length : Int)] ++ (ds.take i).flatMap chRow = row at hC'
        have hrl : row.length ≤ 5005 := by
          rw [← hrow, List.length_append]
          show 5 + _ ≤ _
          omega
        refine ⟨r, _, rfl, SqT.of hr', rfl, ?_⟩
        refine ⟨_, _, rfl, _, _, rfl, _, _, rfl, rfl, ?_⟩
        refine ⟨_, rfl, .inl ⟨rfl, _, SqL.of hC'⟩, _, rfl, C, _, _, rfl, rfl, hC', sizeL (by rw [List.length_map]; omega), ?_⟩
        have sm1 := MN.Same.mut (o := .lst (row.map V.int ++ [.int (d.key : Int)])) sm hC
        refine ⟨_, rfl, .inl ⟨rfl, _, SqL.of upd_same⟩, _, rfl, d.old, rfl, fun B hB => ?_⟩
        have nCB : C ≠ B := ne_of_none upd_same hB
        refine ⟨C, B, _, _, rfl, rfl, by rw [upd_ne nCB]; exact upd_same, upd_same, ?_, ?_⟩
        · rw [List.length_append, List.length_map, List.length_map, optRow_len]
          exact Nat.le_of_lt (sizeL (by show row.length + 1 + 2 < _; omega))
        have sm2 := MN.Same.mut (o := .lst (row.map V.int ++ [.int (d.key : Int)] ++ (Vbwsah.optRow d.old).map V.int)) (sm1.trans (Same.new (o := .lst ((Vbwsah.optRow d.old).map V.int)) hB)) hC
        refine ⟨_, rfl, .inl ⟨rfl, _, SqL.of upd_same⟩, _, rfl, d.new, rfl, fun B2 hB2 => ?_⟩
        have nCB2 : C ≠ B2 := ne_of_none upd_same hB2
        refine ⟨C, B2, _, _, rfl, rfl, by rw [upd_ne nCB2]; exact upd_same, upd_same, ?_, ?_⟩
        · rw [List.length_append, List.length_append, List.length_map, List.length_map, List.length_map, optRow_len, optRow_len]
          exact Nat.le_of_lt (sizeL (by show row.length + 1 + 2 + 2 < _; omega))
        refine ⟨_, _, _, rfl, MN.Same.mut (sm2.trans (Same.new hB2)) hC, ?_⟩
        rw [upd_same, flat_take hdi, ← List.append_assoc, hrow]
        unfold chRow
        simp
    · rintro σ H' ⟨v2, v3, v4, rfl, sm, hC'⟩
      refine ⟨_, rfl, q H' C sm hC ?_⟩
      rw [hC', List.length_map, hlen, List.take_length]
      rfl
def inRow (i : Numbered) : List Int := [(i.1 : Int), i.2.ax, i.2.ay]
def spToldUp (Z : Cs) : Sp := fun vs H Q _ => ∃ (a dx ud : Addr) (c t : Nat) (l : List (Int × Addr)) (is : List Numbered), vs = [.ref a] ∧ H a = some (oUp Z dx (c : Int) (t : Int) ud) ∧ H ud = some (.dK (encR l)) ∧ InRel H l is ∧ is.length ≤ 1000 ∧
  ∀ H' p, Same H H' → H p = none → H' p = some (.lst ((Vbwsah.packetRow (.up c t is)).map V.int)) → Q (.ref p) H'
theorem ok_told_up (T : Txt K mg Z) : DefOk P w K mg base 1 "told_up" ["packet"] (spToldUp Z) := by
  refine T.f_told_up.ok sc_told_up (fun vs H Q E h => ?_) (fun f cdv A outer s H vs Q E hr h => ⟨_, (pss_cons (ps_set (i := 1) sc_told_up.nd rfl (Or.inl rfl) (pe_lst (pa_cons pe_int (pa_cons (pe_fld (pv 0) rfl) (pa_cons (pe_fld (pv 0) rfl) (pa_cons (pe_callB call_lenD (by rfl) T.n_len (by decide +kernel) (pa_cons (pe_fld (pv 0) rfl) pa_nil)) pa_nil))))))
      (pss_cons (ps_lock (ps_for PassesOwn.never rfl (pi_items (pe_fld (pv 0) rfl)) (pg_tup rfl (pgs_cons (pg_name (i := 2) sc_told_up.nd rfl (Or.inl rfl)) (pgs_cons (pg_name (i := 3) sc_told_up.nd rfl (Or.inl rfl)) pgs_nil))) (pss_one (ps_expr (pe_bm PySem.F.plainAttrs_list PySem.F.slot_list_extend PySem.F.type_list_extend mt_extend (pv 1) (pa_cons (pe_lst (pa_cons (pv 2) (pa_cons (pe_ix ix_tup (pv 3) pe_int (fun _ _ => rfl)) (pa_cons (pe_ix ix_tup (pv 3) pe_int (fun _ _ => rfl)) pa_nil)))) pa_nil))))))
      (pss_one (ps_ret (pv 1))))), ?_⟩)
  · obtain ⟨a, dx, ud, c, t, l, is, rfl, _⟩ := h; rfl
  · obtain ⟨a, dx, ud, c, t, l, is, rfl, ha, hud, ir, hz, q⟩ := h
    have hlen : l.length = is.length := Paired.len ir
    have nau : a ≠ ud := ne_of ha hud (fun z => nomatch z)
    refine ⟨_, rfl, a, Z.Up, dx, _, _, rfl, ha, T.cl_Up, T.na_Up_client, lk_Up_client, _, rfl, a, Z.Up, dx, _, _, rfl, ha, T.cl_Up, T.na_Up_tick, lk_Up_tick, _, rfl, a, Z.Up, dx, _, _, rfl, ha, T.cl_Up, T.na_Up_inputs, lk_Up_inputs, ud, encR l, rfl, hud, ?_⟩
    refine ⟨(by show 4 ≤ sizeLine; decide), fun C hC => ?_⟩
    rw [encR_len, hlen]
    have s0 : Same H (upd H C (.lst [.int 1, .int (c : Int), .int (t : Int), .int (is.length : Int)])) := Same.new hC
    have nCu : C ≠ ud := ne_of_none' hud hC
    refine ⟨ud, .dK (encR l), s0 _ _ hud, trivial, fun od => ?_⟩
    generalize hH1 : upd H C (.lst [.int 1, .int (c : Int), .int (t : Int), .int (is.length : Int)]) = H1 at s0 ⊢
    have hC1 : H1 C = some (.lst [.int 1, .int (c : Int), .int (t : Int), .int (is.length : Int)]) := by rw [← hH1]; exact upd_same
    have hx : upd H1 ud (.frz od (.dK (encR l))) a = some (oUp Z dx (c : Int) (t : Int) ud) := by rw [upd_ne nau]; exact s0 _ _ ha
    refine ⟨_, rfl, a, Z.Up, dx, _, _, rfl, hx, T.cl_Up, T.na_Up_inputs, lk_Up_inputs, ud, od, encR l, rfl, upd_same, ?_⟩
    refine for_it walk_items (fun i σ H' => ∃ v3 v4 : Option V, σ = [some (.ref a), some (.ref C), v3, v4] ∧ (∀ b o, upd H1 ud (.frz od (.dK (encR l))) b = some o → b ≠ C → H' b = some o) ∧ H' C = some (.lst (([1, (c : Int), (t : Int), (is.length : Int)] ++ (is.take i).flatMap inRow).map V.int))) ⟨none, none, rfl, fun a o e _ => e, by rw [upd_ne nCu]; exact hC1⟩ (fun i σ H' _ ⟨_, _, _, fr, _⟩ => fr ud _ upd_same (Ne.symm nCu)) ?_ ?_
    · rintro i x σ H' H2 hi ⟨v3, v4, rfl, fr, hC'⟩ ⟨Tt, kx, vx, rfl, hT, rfl, ek, ev⟩
      have hil : i < l.length := by rw [encR_len] at hi; exact hi
      have hge : (encR l)[i]? = some (ik l[i].1, .ref l[i].2) := by
        unfold encR
        rw [List.getElem?_map, List.getElem?_eq_getElem hil]; rfl
      dsimp only at ek ev
      rw [hge] at ek ev
      have ek' : V.int l[i].1 = kx := Option.some.inj ek
      have ev' : V.ref l[i].2 = vx := Option.some.inj ev
      subst ek' ev'
      obtain ⟨y, hy, e1, ht⟩ := Paired.at ir (List.getElem?_eq_getElem hil)
      have ht1 : upd H1 ud (.frz od (.dK (encR l))) l[i].2 = some (tupI y.2) := by rw [upd_ne (ne_of ht hud (fun z => nomatch z))]; exact s0 _ _ ht
      have ht' := fr _ _ ht1 (ne_of_none ht hC)
      have ht2 : upd H' Tt (.tup [.int l[i].1, .ref l[i].2]) l[i].2 = some (tupI y.2) := by rw [upd_ne (ne_of_none ht' hT)]; exact ht'
      have hCT : C ≠ Tt := ne_of_none hC' hT
      have hC2 : upd H' Tt (.tup [.int l[i].1, .ref l[i].2]) C = some (.lst (([1, (c : Int), (t : Int), (is.length : Int)] ++ (is.take i).flatMap inRow).map V.int)) := by rw [upd_ne hCT]; exact hC'
      have hfl : ((is.take i).flatMap inRow).length ≤ 3000 := by
        rw [flat_len (k := 3) (fun _ => rfl), List.length_take]; omega
      generalize hrow : [1, (c : Int), (t : Int), (is.length : Int)] ++ (is.take i).flatMap inRow = row at hC' hC2
      have hrl : row.length ≤ 3004 := by
        rw [← hrow, List.length_append]
        show 4 + _ ≤ _
        omega
      refine ⟨Tt, _, rfl, SqT.of upd_same, rfl, _, _, rfl, _, _, rfl, rfl, ?_⟩
      refine ⟨_, rfl, .inl ⟨rfl, _, SqL.of hC2⟩, _, rfl, _, rfl, _, _, _, _, rfl, rfl, SqT.of ht2, atI_nat (j := 0) rfl, _, rfl, _, _, _, _, rfl, rfl, SqT.of ht2, atI_nat (j := 1) rfl, ?_⟩
      refine ⟨(by show 3 ≤ sizeLine; decide), fun B hB => ?_⟩
      have nCB : C ≠ B := ne_of_none hC2 hB
      refine ⟨C, B, _, _, rfl, rfl, by rw [upd_ne nCB]; exact hC2, upd_same, ?_, ?_⟩
      · rw [List.length_map]
        exact Nat.le_of_lt (sizeL (by show row.length + 3 < _; omega))
      refine ⟨_, _, rfl, fun b o e z => ?_, ?_⟩
      · have h1 := fr b o e z
        have h2 : upd H' Tt (.tup [.int l[i].1, .ref l[i].2]) b = some o := by rw [upd_ne (ne_of_none h1 hT)]; exact h1
        rw [upd_ne z, upd_ne (ne_of_none h2 hB)]; exact h2
      · rw [upd_same, flat_take hy, ← List.append_assoc, hrow]
        unfold inRow
        rw [e1]
        simp
    · rintro σ H' ⟨v3, v4, rfl, fr, hC'⟩
      rw [encR_len, hlen, List.take_length] at hC'
      refine ⟨fr ud _ upd_same (Ne.symm nCu), _, rfl, q _ C (fun b o e => ?_) hC ?_⟩
      · by_cases z : b = ud
        · subst z
          rw [upd_same]
          rw [hud] at e; exact e
        · rw [upd_ne z]
          exact fr b o (by rw [upd_ne z]; exact s0 b o e) (ne_of_none e hC)
      · rw [upd_ne nCu, hC']; rfl
end MN
set_option Elab.async false
set_option maxRecDepth 100000
set_option maxHeartbeats 2000000
set_option linter.unusedVariables false
namespace MN
open PySem PySem.Spec PyProof.Rows L2
open Vbwsae (Change)
open Vbwsah (Input Numbered Known Client State Packet Ring)
variable {P : Program} {w : World} {K : PySem.W.Frag} {mg : Str → Option Value} {base : Heap} {Z : Cs}
theorem packetRow_down (c t b : Nat) (d : List (Change Int)) : (Vbwsah.packetRow (.down c t b d)).length = 5 + 5 * d.length := by
  show ([0, (c : Int), (t : Int), (b : Int), (d.length : Int)] ++ d.flatMap chRow).length = _
  rw [List.length_append, flat_len chRow_len]; rfl
theorem packetRow_up (c t : Nat) (is : List Numbered) : (Vbwsah.packetRow (.up c t is)).length = 4 + 3 * is.length := by
  show ([1, (c : Int), (t : Int), (is.length : Int)] ++ is.flatMap inRow).length = _
  rw [List.length_append, flat_len (k := 3) (fun _ => rfl)]; rfl
theorem ok_tell_packet (T : Txt K mg Z) : DefOk P w K mg base 3 "tell_packet" ["net", "place"] (fun vs H Q E => ∃ p : Int, spCall Z (.packet p) [.int p] vs H Q E) := by
  refine T.f_tell_packet.ok sc_tell_packet (fun vs H Q E h => ?_) (fun f cdv A outer s H vs Q E hr h => ⟨_, (pss_cons (ps_if (pt_not (pt_chain op_le op_lt pe_int (pv 1) (pe_callB call_len_seq (by rfl) T.n_len (by decide +kernel) (pa_cons (pe_fld (pv 0) rfl) pa_nil)))) (pss_one (ps_ret (pe_lst (pa_cons (pe_gc T.c_NO_SUCH) pa_nil)))) pss_nil)
      (pss_cons (ps_set (i := 2) sc_tell_packet.nd rfl (Or.inl rfl) (pe_ix ix_list (pe_fld (pv 0) rfl) (pv 1) (fun _ _ => rfl)))
      (pss_cons (ps_if (pt_val (pe_callB call_isi (by rfl) T.n_isinstance (by decide +kernel) (pa_cons (pv 2) (pa_cons (pe_gc T.g_Down) pa_nil)))) (pss_one (ps_ret (pe_op op_cat (pe_lst (pa_cons pe_int pa_nil)) (pe_def (ok_told_down T) hr (pa_cons (pv 2) pa_nil))))) pss_nil)
      (pss_one (ps_ret (pe_op op_cat (pe_lst (pa_cons pe_int pa_nil)) (pe_def (ok_told_up T) hr (pa_cons (pv 2) pa_nil)))))))), ?_⟩)
  · obtain ⟨c, L, net, s, n, hist, rfl, _⟩ := h; rfl
  · obtain ⟨pl, L, net, st, n, hist, rfl, ⟨A, sa⟩, iv, hn, q⟩ := h
    have q : Wants Z (.packet pl) L H net st Q := q
    have h0 := sa.h0
    have hpk : A.pk.length = st.packets.length := Paired.len sa.rl
    have vlen : ∀ σ : L2.St, σ[0]? = some (some (.ref net)) → Val (fun σ H Q => (tCons (tFld K (tVar 0) "packets") tNil) σ H fun vs H1 => ∃ p xs, vs = [.ref p] ∧ (SqL K H1 p xs ∨ SqT K H1 p xs) ∧ Q (.int (xs.length : Int)) H1) σ H (.int ((A.pk.map V.ref).length : Int)) := fun σ hσ Q q => ⟨_, hσ, net, Z.Net, A.dx, _, _, rfl, h0, T.cl_Net, T.na_Net_packets, lk_Net_packets, A.pl, _, rfl, .inl (SqL.of sa.hl), q⟩
    by_cases c1 : (decide ((0 : Int) ≤ pl) && decide (pl < ((A.pk.map V.ref).length : Int))) = true
    · refine st_seq (st_n (ans_not (ans_test (val_chainLt val_c (val_var rfl) (vlen _ rfl)))) (by rw [c1]; rfl) ?_)
      have hb : 0 ≤ pl ∧ pl < (A.pk.length : Int) := by
        rw [List.length_map] at c1
        simp only [Bool.and_eq_true, decide_eq_true_eq] at c1
        exact c1
      obtain ⟨j, rfl⟩ : ∃ j : Nat, pl = (j : Int) := ⟨pl.toNat, by omega⟩
      have hj : j < A.pk.length := by omega
      obtain ⟨pk, hpkj, pkat⟩ := Paired.at sa.rl (List.getElem?_eq_getElem hj)
      have hmem : pk ∈ st.packets := List.mem_of_getElem? hpkj
      have hai : atI (A.pk.map V.ref) (j : Int) = some (.ref A.pk[j]) := atI_nat (by rw [List.getElem?_map, List.getElem?_eq_getElem hj]; rfl)
      have hsel : (if (j : Int) < 0 then none else st.packets[((j : Int)).toNat]?) = some pk := by rw [if_neg (by omega)]; exact hpkj
      have hstep : Vbwsah.step st (.packet (j : Int)) = (st, 0 :: Vbwsah.packetRow pk) := by
        rw [Vbwsah.step, hsel]
      generalize A.pk[j] = a at pkat hai
      refine ⟨_, rfl, net, Z.Net, A.dx, _, _, rfl, h0, T.cl_Net, T.na_Net_packets, lk_Net_packets, _, rfl, A.pl, _, _, _, rfl, rfl, SqL.of sa.hl, hai, ?_⟩
      obtain ⟨kn, hkn⟩ := iv.pkc pk hmem
      cases pk with
      | down c t b d =>
        have hkn : (c, kn) ∈ st.known := hkn
        obtain ⟨la, dp, ch, rs, hpa, lch, lrs, hch, prs⟩ := pkat
        have hc : ∃ x, (c, x) ∈ st.clients := by
          have : c ∈ st.clients.map (·.1) := by rw [iv.fst]; exact List.mem_map.mpr ⟨_, hkn, rfl⟩
          obtain ⟨y, hy, ey⟩ := List.mem_map.mp this
          exact ⟨y.2, by rw [← ey]; exact hy⟩
        obtain ⟨x, hx⟩ := hc
        obtain ⟨all, recv, per⟩ := iv.per _ _ _ hkn hx
        obtain ⟨g1, g2, g3⟩ := per.down t b d hmem
        have htt := (per.tAll t g1).2
        have hbt : b ≤ st.tick := by
          rcases g3 with z | ⟨_, z, _⟩ <;> omega
        have hdl : d.length ≤ 400 := by
          obtain ⟨_, _, f3⟩ := diff_facts (iv.good b hbt).wf (iv.good t htt).wf
          have z1 := size_104 (iv.good b hbt)
          have z2 := size_104 (iv.good t htt)
          rw [g2]; omega
        refine st_seq (st_y (ans_val (val_isi (val_var rfl) val_c hpa T.cl_Down T.ty_Down T.kit_DD)) rfl ?_)
        refine ⟨(by show 1 ≤ sizeLine; decide), fun C hC => ?_⟩
        have s0 : Same H (upd H C (.lst [.int 0])) := Same.new hC
        refine ⟨_, rfl, a, dp, ch, c, t, b, rs, d, rfl, s0 _ _ hpa, s0 _ _ hch, Paired.mapP prs fun r d z => s0 _ _ z, by omega, fun H2 p2 sm hp2 hp2' => ?_⟩
        refine ⟨C, p2, _, _, rfl, rfl, sm _ _ upd_same, hp2', ?_, fun r hr => ?_⟩
        · rw [List.length_map, packetRow_down]
          exact Nat.le_of_lt (sizeL (by show 1 + _ < _; omega))
        · exact q.same sa hstep (s0.trans sm) hr
      | up c ac is =>
        have hkn : (c, kn) ∈ st.known := hkn
        obtain ⟨la, du, ud, lu, hpa, lud, hud, rins⟩ := pkat
        have hc : ∃ x, (c, x) ∈ st.clients := by
          have : c ∈ st.clients.map (·.1) := by rw [iv.fst]; exact List.mem_map.mpr ⟨_, hkn, rfl⟩
          obtain ⟨y, hy, ey⟩ := List.mem_map.mp this
          exact ⟨y.2, by rw [← ey]; exact hy⟩
        obtain ⟨x, hx⟩ := hc
        obtain ⟨all, recv, per⟩ := iv.per _ _ _ hkn hx
        have hup := (per.up ac is hmem).2.1
        refine st_seq (st_n (ans_val (val_isi (val_var rfl) val_c hpa T.cl_Up T.ty_Up T.kit_UD)) rfl ?_)
        refine ⟨(by show 1 ≤ sizeLine; decide), fun C hC => ?_⟩
        have s0 : Same H (upd H C (.lst [.int 0])) := Same.new hC
        refine ⟨_, rfl, a, du, ud, c, ac, lu, is, rfl, s0 _ _ hpa, s0 _ _ hud, Paired.mapP rins.rel fun p q ⟨z1, z2⟩ => ⟨z1, s0 _ _ z2⟩, by omega, fun H2 p2 sm hp2 hp2' => ?_⟩
        refine ⟨C, p2, _, _, rfl, rfl, sm _ _ upd_same, hp2', ?_, fun r hr => ?_⟩
        · rw [List.length_map, packetRow_up]
          exact Nat.le_of_lt (sizeL (by show 1 + _ < _; omega))
        · exact q.same sa hstep (s0.trans sm) hr
    · have c1 : (decide ((0 : Int) ≤ pl) && decide (pl < ((A.pk.map V.ref).length : Int))) = false := by simpa using c1
      refine st_seq (st_y (ans_not (ans_test (val_chainLt val_c (val_var rfl) (vlen _ rfl)))) (by rw [c1]; rfl) ?_)
      refine st_retL (fun Q q => q) (by decide) fun p hp => q.same sa (xs := [-1]) ?_ (Same.refl H) hp
      rw [Vbwsah.step]
      have e : (if pl < 0 then none else st.packets[pl.toNat]?) = none := by
        by_cases z : pl < 0
        · rw [if_pos z]
        · rw [if_neg z, List.getElem?_eq_none_iff]
          rw [List.length_map, Bool.and_eq_false_iff, decide_eq_false_iff_not, decide_eq_false_iff_not] at c1
          omega
      rw [e]; rfl
/-! ### counts -/
def cntRow (k : Nat × Known) : List Int := [(k.1 : Int), (k.2.body : Int), (k.2.ack : Int), (k.2.sent.length : Int)]
theorem ok_tell_counts (T : Txt K mg Z) : DefOk P w K mg base 1 "tell_counts" ["net"] (spCall Z .counts []) := by
  refine T.f_tell_counts.ok sc_tell_counts (fun vs H Q E h => ?_) (fun f cdv A outer s H vs Q E hr h => ⟨_, (pss_cons (ps_set (i := 1) sc_tell_counts.nd rfl (Or.inl rfl) (pe_lst (pa_cons pe_int (pa_cons (pe_fld (pv 0) rfl) (pa_cons (pe_callB call_lenD (by rfl) T.n_len (by decide +kernel) (pa_cons (pe_fld (pv 0) rfl) pa_nil)) (pa_cons (pe_callB call_len_seq (by rfl) T.n_len (by decide +kernel) (pa_cons (pe_fld (pv 0) rfl) pa_nil)) (pa_cons (pe_callB call_lenD (by rfl) T.n_len (by decide +kernel) (pa_cons (pe_fld (pv 0) rfl) pa_nil)) pa_nil)))))))
      (pss_cons (ps_lock (ps_for PassesOwn.never rfl (pi_items (pe_fld (pv 0) rfl)) (pg_tup rfl (pgs_cons (pg_name (i := 2) sc_tell_counts.nd rfl (Or.inl rfl)) (pgs_cons (pg_name (i := 3) sc_tell_counts.nd rfl (Or.inl rfl)) pgs_nil))) (pss_one (ps_expr (pe_bm PySem.F.plainAttrs_list PySem.F.slot_list_extend PySem.F.type_list_extend mt_extend (pv 1) (pa_cons (pe_lst (pa_cons (pv 2) (pa_cons (pe_fld (pv 3) rfl) (pa_cons (pe_fld (pv 3) rfl) (pa_cons (pe_callB call_lenD (by rfl) T.n_len (by decide +kernel) (pa_cons (pe_fld (pv 3) rfl) pa_nil)) pa_nil))))) pa_nil))))))
      (pss_one (ps_ret (pv 1))))), ?_⟩)
  · obtain ⟨L, net, s, n, hist, rfl, _⟩ := h; rfl
  · obtain ⟨L, net, st, n, hist, rfl, ⟨A, sa⟩, iv, hn, q⟩ := h
    have q : Wants Z .counts L H net st Q := q
    have h0 := sa.h0
    have hpk : A.pk.length = st.packets.length := Paired.len sa.rl
    have hlp : A.lp.length = st.known.length := Paired.len sa.rp
    have h4 := iv.four
    have npd : net ≠ A.pd := lab_ne sa.l0 sa.lp (by decide)
    have est : Vbwsah.step st .counts = (st, [0, (st.tick : Int), (Vbwsae.size st.world : Int), (st.packets.length : Int), (st.past.length : Int)] ++ st.known.flatMap cntRow) := rfl
    refine ⟨_, rfl, net, Z.Net, A.dx, _, _, rfl, h0, T.cl_Net, T.na_Net_tick, lk_Net_tick, _, rfl, net, Z.Net, A.dx, _, _, rfl, h0, T.cl_Net, T.na_Net_world, lk_Net_world, A.wa, A.kw, rfl, sa.hw, _, rfl, net, Z.Net, A.dx, _, _, rfl, h0, T.cl_Net, T.na_Net_packets, lk_Net_packets, A.pl, _, rfl, .inl (SqL.of sa.hl), _, rfl, net, Z.Net, A.dx, _, _, rfl, h0, T.cl_Net, T.na_Net_kept, lk_Net_kept, A.kd, _, rfl, sa.hk, ?_⟩
    refine ⟨(by show 5 ≤ sizeLine; decide), fun C hC => ?_⟩
    rw [sa.rw.len, List.length_map, hpk, encR_len, sa.rk.len]
    have s0 : Same H (upd H C (.lst [.int 0, .int (st.tick : Int), .int (Vbwsae.size st.world : Int), .int (st.packets.length : Int), .int (st.past.length : Int)])) := Same.new hC
    have pC : A.pd ≠ C := ne_of_none sa.hp hC
    refine ⟨A.pd, .dK (encR A.lp), s0 _ _ sa.hp, trivial, fun od => ?_⟩
    refine ⟨_, rfl, net, Z.Net, A.dx, _, _, rfl, by rw [upd_ne npd]; exact s0 _ _ h0, T.cl_Net, T.na_Net_peers, lk_Net_peers, A.pd, od, encR A.lp, rfl, upd_same, ?_⟩
    refine for_it walk_items (fun i σ H' => ∃ v2 v3 : Option V, σ = [some (.ref net), some (.ref C), v2, v3] ∧ (∀ a o, H a = some o → a ≠ A.pd → H' a = some o) ∧ H' A.pd = some (.frz od (.dK (encR A.lp))) ∧ H' C = some (.lst (([0, (st.tick : Int), (Vbwsae.size st.world : Int), (st.packets.length : Int), (st.past.length : Int)] ++ (st.known.take i).flatMap cntRow).map V.int))) ⟨none, none, rfl, fun a o e z => by rw [upd_ne z]; exact s0 _ _ e, upd_same, ?_⟩ (fun i σ H' _ ⟨_, _, _, _, h, _⟩ => h) ?_ ?_
    · rw [upd_ne (Ne.symm pC), upd_same]; rfl
    · rintro i x σ H' H2 hi ⟨v3, v4, rfl, fr, hz, hC'⟩ ⟨Tt, kx, vx, rfl, hT, rfl, ek, ev⟩
      have hlen : i < A.lp.length := by rw [encR_len] at hi; exact hi
      have hge : (encR A.lp)[i]? = some (ik A.lp[i].1, .ref A.lp[i].2) := by
        unfold encR
        rw [List.getElem?_map, List.getElem?_eq_getElem hlen]; rfl
      dsimp only at ek ev
      rw [hge] at ek ev
      have ek' : V.int A.lp[i].1 = kx := Option.some.inj ek
      have ev' : V.ref A.lp[i].2 = vx := Option.some.inj ev
      subst ek' ev'
      obtain ⟨⟨c, k⟩, hck, pe0⟩ := Paired.at sa.rp (List.getElem?_eq_getElem hlen)
      obtain ⟨dx, sd, wtd, ls, lw, m, cp⟩ := pe0
      have ec : A.lp[i].1 = (c : Int) := cp.num
      generalize A.lp[i] = p at *
      obtain ⟨pn, pa⟩ := p
      have ec : pn = (c : Int) := ec
      subst ec
      have keepT : ∀ a o, H' a = some o → upd H' Tt (.tup [.int (c : Int), .ref pa]) a = some o := fun a o e => by rw [upd_ne (ne_of_none e hT)]; exact e
      have ppd : pa ≠ A.pd := lab_ne cp.l1 sa.lp (by simp)
      have spd : sd ≠ A.pd := lab_ne cp.l2 sa.lp (by simp)
      have u1 := keepT _ _ (fr _ _ cp.h1 ppd)
      have u2 := keepT _ _ (fr _ _ cp.h2 spd)
      have u5 := keepT _ _ hz
      have uC := keepT _ _ hC'
      have hfl : ((st.known.take i).flatMap cntRow).length ≤ 100 := by
        rw [flat_len (k := 4) (fun _ => rfl), List.length_take]; omega
      generalize hrow : [0, (st.tick : Int), (Vbwsae.size st.world : Int), (st.packets.length : Int), (st.past.length : Int)] ++ (st.known.take i).flatMap cntRow = row at hC' uC
      have hrl : row.length ≤ 105 := by
        rw [← hrow, List.length_append]
        show 5 + _ ≤ _
        omega
      refine ⟨Tt, _, rfl, SqT.of upd_same, rfl, _, _, rfl, _, _, rfl, rfl, ?_⟩
      refine ⟨_, rfl, .inl ⟨rfl, _, SqL.of uC⟩, _, rfl, _, rfl, pa, Z.Peer, dx, _, _, rfl, u1, T.cl_Peer, T.na_Peer_body, lk_Peer_body, _, rfl, pa, Z.Peer, dx, _, _, rfl, u1, T.cl_Peer, T.na_Peer_known_tick, lk_Peer_known_tick, _, rfl, pa, Z.Peer, dx, _, _, rfl, u1, T.cl_Peer, T.na_Peer_sent, lk_Peer_sent, sd, _, rfl, u2, ?_⟩
      refine ⟨(by show 4 ≤ sizeLine; decide), fun D hD => ?_⟩
      have nDC : C ≠ D := ne_of_none uC hD
      refine ⟨C, D, _, _, rfl, rfl, by rw [upd_ne nDC]; exact uC, upd_same, ?_, ?_⟩
      · rw [List.length_map]
        exact Nat.le_of_lt (sizeL (by show row.length + 4 < _; omega))
      · refine ⟨_, _, rfl, fun a o e z => ?_, ?_, ?_⟩
        · have z1 := keepT _ _ (fr a o e z)
          rw [upd_ne (ne_of_none e hC), upd_ne (ne_of_none z1 hD)]; exact z1
        · rw [upd_ne pC, upd_ne (ne_of_none u5 hD)]; exact u5
        · rw [upd_same, flat_take hck, ← List.append_assoc, hrow, encR_len, cp.r2.len]
          unfold cntRow
          simp
    · rintro σ H' ⟨v3, v4, rfl, fr, hz, hC'⟩
      refine ⟨hz, ?_⟩
      have sm : Same H (upd H' A.pd (.dK (encR A.lp))) := fun a o e => by
        by_cases z : a = A.pd
        · rw [z, upd_same]; rw [z, sa.hp] at e; exact e
        · rw [upd_ne z]; exact fr a o e z
      refine ⟨_, rfl, ?_⟩
      refine q _ L C ?_ (Same.keep sm) (LSame.refl H L) hC ?_
      · rw [est]; exact ⟨_, sa.same sm⟩
      · rw [upd_ne (Ne.symm pC), hC', est, encR_len, hlp, List.take_length]
end MN
set_option Elab.async false
set_option maxRecDepth 100000
set_option maxHeartbeats 2000000
set_option linter.unusedVariables false
namespace MN
open PySem PySem.Spec PyProof.Rows L2
open Vbwsah (Input Numbered Known Client State Packet Ring Frac)
variable {P : Program} {w : World} {K : PySem.W.Frag} {mg : Str → Option Value} {base : Heap} {Z : Cs}
theorem ok_is_time (T : Txt K mg Z) : DefOk P w K mg base 1 "is_time" ["n", "d"] (spB2 fun n d => inR 0 1000000 n && inR 1 1000 d) := by
  refine T.f_is_time.ok sc_is_time (fun vs H Q E h => ?_) (fun f cdv A outer s H vs Q E hr h => ⟨_, (pss_one (ps_ret (pe_and (pe_chain op_le op_le pe_int (pv 0) (pe_gc T.c_GREATEST_UPPER)) (pe_one (pe_chain op_le op_le pe_int (pv 1) (pe_gc T.c_GREATEST_LOWER)))))), ?_⟩)
  · obtain ⟨i, j, rfl, _⟩ := h; rfl
  · obtain ⟨i, j, rfl, q⟩ := h
    exact val_andV (ans_chainLe (lo := 0) (hi := 1000000) val_c (val_var rfl) val_c) (ans_chainLe (lo := 1) (hi := 1000) val_c (val_var rfl) val_c) _ q
/-! ### between two worlds -/
abbrev oBetween (Z : Cs) (dx b a : Addr) (l p : Int) : HO := .ins Z.Between dx (fBetween (.ref b) (.ref a) (.int l) (.int p))
def spBetweenInit (Z : Cs) : Sp := fun vs H Q _ => ∃ (x dx wd b a : Addr) (kvs : List (Key × V)) (t1 t2 n d : Int), vs = [.ref x, .ref wd, .int t1, .int t2, .int n, .int d] ∧ H x = some (.ins Z.Between dx []) ∧ H wd = some (.dK kvs) ∧ valV kvs (ik t1) = some (.ref b) ∧ valV kvs (ik t2) = some (.ref a) ∧ 0 ≤ d ∧ d ≤ 1000 ∧
  Q .non (upd H x (oBetween Z dx b a ((t2 - t1) * d) (n - t1 * d)))
theorem mk_Between (T : Txt K mg Z) : MakeOk P w K mg base Z.Between 1 "Between" ["self", "worlds", "t1", "t2", "n", "d"] (spBetweenInit Z) := by
  refine T.f_Between___init__.ok sc_Between___init__ (fun vs H Q E h => ?_) (fun f cdv A outer s H vs Q E hr h => ⟨_, (pss_cons (ps_fld (pv 0) (pe_dget (hu_of hr) (pv 1) (pv 2) (fun _ _ => rfl)) rfl)
      (pss_cons (ps_fld (pv 0) (pe_dget (hu_of hr) (pv 1) (pv 3) (fun _ _ => rfl)) rfl)
      (pss_cons (ps_fld (pv 0) (pe_op op_mul (pe_op op_sub (pv 3) (pv 2)) (pv 5)) rfl)
      (pss_one (ps_fld (pv 0) (pe_op op_sub (pv 4) (pe_op op_mul (pv 2) (pv 5))) rfl))))), ?_⟩)
  · obtain ⟨x, dx, wd, b, a, kvs, t1, t2, n, d, rfl, _⟩ := h; rfl
  · obtain ⟨x, dx, wd, b, a, kvs, t1, t2, n, d, rfl, hx, hw, e1, e2, d0, d1, q⟩ := h
    have nxw : wd ≠ x := Ne.symm (ne_of hx hw (fun z => nomatch z))
    refine ⟨_, rfl, _, rfl, wd, .ref b, rfl, e1 ▸ DGet.k (k := ik t1) hw, _, rfl, x, Z.Between, dx, _, rfl, hx, T.cl_Between, T.na_Between_before, (by show 0 < 1000; decide), ?_⟩
    refine ⟨_, rfl, _, rfl, wd, .ref a, rfl, e2 ▸ DGet.k (k := ik t2) (by rw [upd_ne nxw]; exact hw), _, rfl, x, Z.Between, dx, _, rfl, upd_same, T.cl_Between, T.na_Between_after, (by show 1 < 1000; decide), ?_⟩
    refine ⟨_, rfl, _, rfl, _, _, rfl, rfl, _, rfl, _, _, rfl, rfl, .inr ⟨by omega, by omega⟩, _, rfl, x, Z.Between, dx, _, rfl, upd_same, T.cl_Between, T.na_Between_lower_number, (by show 2 < 1000; decide), ?_⟩
    refine ⟨_, rfl, _, rfl, _, rfl, _, _, rfl, rfl, .inr ⟨by omega, by omega⟩, _, _, rfl, rfl, _, rfl, x, Z.Between, dx, _, rfl, upd_same, T.cl_Between, T.na_Between_passed, (by show 3 < 1000; decide), ?_⟩
    rw [upd_upd, upd_upd, upd_upd]
    exact q
/-- the upper number of a value between two worlds -/
def upOf (w1 w2 : Vbwsah.World) (l p : Int) (k : Nat) : Option Int := match Vbwsae.get w1 k, Vbwsae.get w2 k with
  | some a, some b => some (a * l + (b - a) * p)
  | some a, none => some (a * l + (a - a) * p)
  | none, some b => some (b * l + (b - b) * p)
  | none, none => none
def spUpper (Z : Cs) : Sp := fun vs H Q _ => ∃ (x dx b a : Addr) (l p : Int) (k : Nat) (w1 w2 : Vbwsah.World), vs = [.ref x, .int (k : Int)] ∧ H x = some (oBetween Z dx b a l p) ∧ WAt H b w1 ∧ WAt H a w2 ∧ -1000000000 ≤ l ∧ l ≤ 1000000000 ∧ -1000000000 ≤ p ∧ p ≤ 1000000000 ∧ Q (optV (upOf w1 w2 l p k)) H
theorem ok_Between_upper_number (T : Txt K mg Z) : MethOk P w K mg base Z.Between 1 "upper_number" ["self", "key"] (spUpper Z) := by
  refine T.f_Between_upper_number.ok sc_Between_upper_number (fun vs H Q E h => ?_) (fun f cdv A outer s H vs Q E hr h => ⟨_, (pss_cons (ps_set (i := 2) sc_Between_upper_number.nd rfl (Or.inl rfl) (pe_dget2 (hu_of hr) (pe_fld (pv 0) rfl) (pv 1) (pe_dget1 (hu_of hr) (pe_fld (pv 0) rfl) (pv 1) ⟨rfl, rfl, rfl, rfl⟩) ⟨rfl, rfl, rfl, rfl⟩))
      (pss_cons (ps_if (pt_cmpR op_isN (pv 2) pe_non (nomark _)) (pss_one (ps_ret pe_non)) pss_nil)
      (pss_cons (ps_set (i := 3) sc_Between_upper_number.nd rfl (Or.inl rfl) (pe_dget2 (hu_of hr) (pe_fld (pv 0) rfl) (pv 1) (pv 2) ⟨rfl, rfl, rfl, rfl⟩))
      (pss_one (ps_ret (pe_op op_add (pe_op op_mul (pv 2) (pe_fld (pv 0) rfl)) (pe_op op_mul (pe_op op_sub (pv 3) (pv 2)) (pe_fld (pv 0) rfl)))))))), ?_⟩)
  · obtain ⟨x, dx, b, a, l, p, k, w1, w2, rfl, _⟩ := h; rfl
  · obtain ⟨x, dx, b, a, l, p, k, w1, w2, rfl, hx, ⟨k1, hb, r1⟩, ⟨k2, ha, r2⟩, l0, l1, p0, p1, q⟩ := h
    have g1 := r1.get k
    have g2 := r2.get k
    refine ⟨_, rfl, x, Z.Between, dx, _, _, rfl, hx, T.cl_Between, T.na_Between_before, lk_Between_before, b, rfl, .inl ⟨k1, .inl hb⟩, _, rfl, _, rfl, x, Z.Between, dx, _, _, rfl, hx, T.cl_Between, T.na_Between_after, lk_Between_after, a, rfl, .inl ⟨k2, .inl ha⟩, _, rfl, _, DGet.k (k := ik (k : Int)) ha, _, DGet.k (k := ik (k : Int)) hb, ?_⟩
    rw [g1, g2]
    refine ⟨_, rfl, rfl, _, rfl, ?_⟩
    have fin : ∀ f s : Int, V.int f ≠ .non → Q (.int (f * l + (s - f) * p)) H → tRet (tOp (rI0 fun i j => .int (i + j)) (tOp (rI CMul fun i j => .int (i * j)) (tVar 2) (tFld K (tVar 0) "lower_number")) (tOp (rI CMul fun i j => .int (i * j)) (tOp (rI0 fun i j => .int (i - j)) (tVar 3) (tVar 2)) (tFld K (tVar 0) "passed"))) { nx := fun _ H' => Q .non H', rt := Q } [some (.ref x), some (.int (k : Int)), some (.int f), some (.int s)] H := by
      intro f s _ qq
      refine ⟨_, rfl, _, rfl, x, Z.Between, dx, _, _, rfl, hx, T.cl_Between, T.na_Between_lower_number, lk_Between_lower_number, _, _, rfl, rfl, .inr ⟨by omega, by omega⟩, ?_⟩
      refine ⟨_, rfl, _, rfl, _, _, rfl, rfl, _, rfl, x, Z.Between, dx, _, _, rfl, hx, T.cl_Between, T.na_Between_passed, lk_Between_passed, _, _, rfl, rfl, .inr ⟨by omega, by omega⟩, _, _, rfl, rfl, qq⟩
    unfold upOf at q
    cases e1 : Vbwsae.get w1 k with
    | some f =>
      rw [e1] at q g1
      refine iteF ⟨_, rfl, x, Z.Between, dx, _, _, rfl, hx, T.cl_Between, T.na_Between_after, lk_Between_after, a, rfl, .inl ⟨k2, .inl ha⟩, _, rfl, _, rfl, _, DGet.k (k := ik (k : Int)) ha, ?_⟩
      rw [g2]
      cases e2 : Vbwsae.get w2 k with
      | some g =>
        rw [e2] at q
        exact fin f g (fun z => nomatch z) q
      | none =>
        rw [e2] at q
        exact fin f f (fun z => nomatch z) q
    | none =>
      rw [e1] at q g1
      cases e2 : Vbwsae.get w2 k with
      | some g =>
        rw [e2] at q g2
        refine iteF ⟨_, rfl, x, Z.Between, dx, _, _, rfl, hx, T.cl_Between, T.na_Between_after, lk_Between_after, a, rfl, .inl ⟨k2, .inl ha⟩, _, rfl, _, rfl, _, DGet.k (k := ik (k : Int)) ha, ?_⟩
        rw [g2]
        exact fin g g (fun z => nomatch z) q
      | none =>
        rw [e2] at q
        exact iteT q
/-- what the specification says of a value between, in whole numbers -/
theorem between_up {t1 t2 k : Nat} {w1 w2 : Vbwsah.World} {n d : Int} (hd : 0 < d) (ht : t1 < t2) :
    Vbwsah.between t1 w1 t2 w2 (Frac.made n d) k = (upOf w1 w2 (((t2 : Int) - t1) * d) (n - (t1 : Int) * d) k).map fun u => Frac.made u (((t2 : Int) - t1) * d) := by
  have hl : 0 < ((t2 : Int) - t1) * d := Int.mul_pos (by omega) hd
  have one : ∀ a p : Int, Frac.of a = Frac.made (a * (((t2 : Int) - t1) * d) + (a - a) * p) (((t2 : Int) - t1) * d) := fun a p => by
    rw [of_made]
    refine made_eq (by decide) hl ?_
    rw [Int.sub_self, Int.zero_mul, Int.add_zero, Int.mul_one]
  unfold upOf
  cases e1 : Vbwsae.get w1 k with
  | some a =>
    cases e2 : Vbwsae.get w2 k with
    | some b =>
      rw [between_both e1 e2 hd ht, Int.mul_comm d]; rfl
    | none =>
      unfold Vbwsah.between
      rw [e1, e2]
      show some (Frac.of a) = some _
      rw [one a]
  | none =>
    cases e2 : Vbwsae.get w2 k with
    | some b =>
      unfold Vbwsah.between
      rw [e1, e2]
      show some (Frac.of b) = some _
      rw [one b]
    | none =>
      unfold Vbwsah.between
      rw [e1, e2]; rfl
def capN (n t2 d : Int) : Int := if (t2 + 3) * d < n then (t2 + 3) * d else n
def spValueBetween (Z : Cs) : Sp := fun vs H Q _ => ∃ (wd b a : Addr) (kvs : List (Key × V)) (t1 t2 k : Nat) (n d : Int) (w1 w2 : Vbwsah.World), vs = [.ref wd, .int (t1 : Int), .int (t2 : Int), .int (k : Int), .int n, .int d] ∧ H wd = some (.dK kvs) ∧ valV kvs (ik (t1 : Int)) = some (.ref b) ∧ valV kvs (ik (t2 : Int)) = some (.ref a) ∧ WAt H b w1 ∧ WAt H a w2 ∧
  t1 < t2 ∧ t2 ≤ 10000 ∧ 0 ≤ n ∧ n ≤ 1000000 ∧ 1 ≤ d ∧ d ≤ 1000 ∧ (upOf w1 w2 (((t2 : Int) - t1) * d) (capN n t2 d - (t1 : Int) * d) k = none → ∀ H', Same H H' → Q .non H') ∧
  (∀ u, upOf w1 w2 (((t2 : Int) - t1) * d) (capN n t2 d - (t1 : Int) * d) k = some u → ∀ H' p, Same H H' → H p = none → H' p = some (.tup [.int u, .int (((t2 : Int) - t1) * d)]) → Q (.ref p) H')
theorem mul_bound {a b : Int} (a0 : -20000 ≤ a) (a1 : a ≤ 20000) (b0 : 0 ≤ b) (b1 : b ≤ 1000) : -20000000 ≤ a * b ∧ a * b ≤ 20000000 := by
  have h1 : a * b ≤ 20000 * b := Int.mul_le_mul_of_nonneg_right a1 b0
  have h2 : -20000 * b ≤ a * b := Int.mul_le_mul_of_nonneg_right a0 b0
  omega
theorem ok_value_between (T : Txt K mg Z) : DefOk P w K mg base 3 "value_between" ["worlds", "t1", "t2", "key", "n", "d"] (spValueBetween Z) := by
  refine T.f_value_between.ok sc_value_between (fun vs H Q E h => ?_) (fun f cdv A outer s H vs Q E hr h => ⟨_, (pss_cons (ps_set (i := 6) sc_value_between.nd rfl (Or.inl rfl) (pe_new (mk_Between T) hr (pa_cons (pv 0) (pa_cons (pv 1) (pa_cons (pv 2) (pa_cons (pe_callB (call_min2 rfl) (by rfl) T.n_min (by decide +kernel) (pa_cons (pv 4) (pa_cons (pe_op op_mul (pe_op op_add (pv 2) (pe_gc T.c_MOST_TICKS_BEYOND)) (pv 5)) pa_nil))) (pa_cons (pv 5) pa_nil)))))))
      (pss_cons (ps_set (i := 7) sc_value_between.nd rfl (Or.inl rfl) (pe_m (ok_Between_upper_number T) T.cl_Between hr (pv 6) (pa_cons (pv 3) pa_nil)))
      (pss_cons (ps_if (pt_cmpR op_isN (pv 7) pe_non (nomark _)) (pss_one (ps_ret pe_non)) pss_nil)
      (pss_one (ps_ret (pe_tup (pa_cons (pv 7) (pa_cons (pe_fld (pv 6) rfl) pa_nil)))))))), ?_⟩)
  · obtain ⟨wd, b, a, kvs, t1, t2, k, n, d, w1, w2, rfl, _⟩ := h; rfl
  · obtain ⟨wd, b, a, kvs, t1, t2, k, n, d, w1, w2, rfl, hw, e1, e2, wb, wa, ht, ht2, n0, n1, d0, d1, q0, q1⟩ := h
    refine ⟨_, rfl, _, rfl, _, rfl, _, rfl, _, rfl, _, _, rfl, rfl, _, rfl, _, _, rfl, rfl, .inr ⟨by omega, by omega⟩, _, _, rfl, _, rfl, ?_⟩
    intro x dx hx hdx nex
    have s0 : Same H (upd (upd H dx (.own x)) x (.ins Z.Between dx [])) := MN.Same.mut (Same.new hdx) hx
    refine ⟨x, dx, wd, b, a, kvs, (t1 : Int), (t2 : Int), capN n t2 d, d, rfl, upd_same, s0 _ _ hw, e1, e2, by omega, d1, ⟨rfl, ?_⟩⟩
    have s1 : Same H (upd (upd (upd H dx (.own x)) x (.ins Z.Between dx [])) x (oBetween Z dx b a (((t2 : Int) - t1) * d) (capN n t2 d - (t1 : Int) * d))) := MN.Same.mut s0 hx
    generalize hH1 : upd (upd (upd H dx (.own x)) x (.ins Z.Between dx [])) x (oBetween Z dx b a (((t2 : Int) - t1) * d) (capN n t2 d - (t1 : Int) * d)) = H1 at s1 ⊢
    have hx1 : H1 x = some (oBetween Z dx b a (((t2 : Int) - t1) * d) (capN n t2 d - (t1 : Int) * d)) := by rw [← hH1]; exact upd_same
    have m1 := mul_bound (a := (t2 : Int) - t1) (b := d) (by omega) (by omega) (by omega) d1
    have m2 := mul_bound (a := (t1 : Int)) (b := d) (by omega) (by omega) (by omega) d1
    have m3 := mul_bound (a := (t2 : Int) + 3) (b := d) (by omega) (by omega) (by omega) d1
    have m4 : -20000000 ≤ capN n t2 d ∧ capN n t2 d ≤ 20000000 := by
      unfold capN
      split <;> omega
    refine ⟨_, rfl, x, dx, _, rfl, hx1, nm_Between_upper_number, _, rfl, x, dx, b, a, _, _, k, w1, w2, rfl, hx1, wb.keep fun o e => s1 _ _ e, wa.keep fun o e => s1 _ _ e, by omega, by omega, by omega, by omega, ?_⟩
    refine ⟨_, rfl, rfl, _, rfl, ?_⟩
    cases eu : upOf w1 w2 (((t2 : Int) - t1) * d) (capN n t2 d - (t1 : Int) * d) k with
    | none => exact iteT (q0 eu H1 s1)
    | some u =>
      rw [decide_eq_false (show ¬ optV (some u) = V.non from fun z => nomatch z)]
      refine iteF ⟨_, rfl, _, rfl, x, Z.Between, dx, _, _, rfl, hx1, T.cl_Between, T.na_Between_lower_number, lk_Between_lower_number, (by show 2 ≤ sizeLine; decide), fun p hp => ?_⟩
      exact q1 u eu _ p (s1.trans (Same.new hp)) (s1.free hp) upd_same
def spFirst : Sp := fun vs H Q _ => ∃ (wd tk : Addr) (kvs : List (Key × V)) (ys : List Int) (k : Nat), vs = [.ref wd, .ref tk, .int (k : Int)] ∧ H wd = some (.dK kvs) ∧ H tk = some (.lst (ys.map V.int)) ∧ (ys = [] → Q .non H) ∧
  (∀ y l, ys = y :: l → ∃ a w1, valV kvs (ik y) = some (.ref a) ∧ WAt H a w1 ∧ (Vbwsae.get w1 k = none → Q .non H) ∧ ∀ v, Vbwsae.get w1 k = some v → ∀ p, H p = none → Q (.ref p) (upd H p (.tup [.int v, .int 1])))
theorem ok_value_in_first (T : Txt K mg Z) : DefOk P w K mg base 1 "value_in_first" ["worlds", "ticks", "key"] spFirst := by
  refine T.f_value_in_first.ok sc_value_in_first (fun vs H Q E h => ?_) (fun f cdv A outer s H vs Q E hr h => ⟨_, (pss_cons (ps_if (PW.pt (pw_or (pt_not (pt_truth (pv 1) (by intro _; rfl))) (pw_or1 (pt_cmp (pc_dnotin (hu_of hr) (pv 2) (pe_dget (hu_of hr) (pv 0) (pe_ix ix_list (pv 1) pe_int (fun _ _ => rfl)) (fun _ _ => rfl))))))) (pss_one (ps_ret pe_non)) pss_nil)
      (pss_one (ps_ret (pe_tup (pa_cons (pe_dget (hu_of hr) (pe_dget (hu_of hr) (pv 0) (pe_ix ix_list (pv 1) pe_int (fun _ _ => rfl)) (fun _ _ => rfl)) (pv 2) (fun _ _ => rfl)) (pa_cons pe_int pa_nil)))))), ?_⟩)
  · obtain ⟨wd, tk, kvs, ys, k, rfl, _⟩ := h; rfl
  · obtain ⟨wd, tk, kvs, ys, k, rfl, hw, ht, q0, q1⟩ := h
    cases ys with
    | nil =>
      refine ⟨_, rfl, _, .inl ⟨_, SqL.of ht, rfl⟩, ?_⟩
      exact iteT (iteT (q0 rfl))
    | cons y l =>
      obtain ⟨a, w1, ev, ⟨kv, ha, r⟩, qn, qs⟩ := q1 y l rfl
      have vg : ∀ {σ : L2.St}, σ[0]? = some (some (.ref wd)) → σ[1]? = some (some (.ref tk)) → Val (tDGet (tVar 0) (tOp (rIxL K) (tVar 1) (tC (.int 0)))) σ H (.ref a) := fun {σ} h0 h1 => val_dget (val_var h0) (val_op (val_var h1) val_c fun Q q => ⟨tk, _, _, _, rfl, rfl, SqL.of ht, atI_nat (j := 0) rfl, q⟩) hw ev
      have g := r.get k
      refine ⟨_, rfl, _, .inl ⟨_, SqL.of ht, rfl⟩, ?_⟩
      refine iteF ?_
      refine (val_dnotin (ta := tVar 2) (tb := tDGet (tVar 0) (tOp (rIxL K) (tVar 1) (tC (.int 0)))) (val_var rfl) (vg rfl rfl) ha) _ ?_
      rw [g]
      cases e : Vbwsae.get w1 k with
      | none => exact iteT (qn e)
      | some v =>
        rw [e] at g
        refine iteF ?_
        refine (val_dget (vg rfl rfl) (val_var rfl) ha g) _ ?_
        exact ⟨(by show 2 ≤ sizeLine; decide), qs v e⟩
end MN
set_option Elab.async false
set_option maxRecDepth 100000
set_option maxHeartbeats 2000000
set_option linter.unusedVariables false
namespace MN
open PySem PySem.Spec PyProof.Rows L2
open Vbwsah (Input Numbered Known Client State Packet Ring Frac)
variable {P : Program} {w : World} {K : PySem.W.Frag} {mg : Str → Option Value} {base : Heap} {Z : Cs}
/-! ### what is shown: the worlds later than a time, and the others -/
theorem ring_split {n d : Int} (hd : 0 < d) : ∀ {r : Ring}, (r.map (·.1)).Pairwise (· > ·) → ∃ hi lo : Ring, r = hi ++ lo ∧ (∀ x ∈ hi, n < (x.1 : Int) * d) ∧ (∀ x ∈ lo, (x.1 : Int) * d ≤ n)
  | [], _ => ⟨[], [], rfl, fun x h => absurd h (by simp), fun x h => absurd h (by simp)⟩
  | x :: r, h => by
    rw [List.map_cons, List.pairwise_cons] at h
    by_cases c : n < (x.1 : Int) * d
    · obtain ⟨hi, lo, e, h1, h2⟩ := ring_split hd h.2
      refine ⟨x :: hi, lo, by rw [e]; rfl, fun y hy => ?_, h2⟩
      rcases List.mem_cons.mp hy with z | z
      · rw [z]; exact c
      · exact h1 y z
    · refine ⟨[], x :: r, rfl, fun y hy => absurd hy (by simp), fun y hy => ?_⟩
      rcases List.mem_cons.mp hy with z | z
      · rw [z]; omega
      · have h3 := h.1 y.1 (List.mem_map.mpr ⟨y, z, rfl⟩)
        have h4 : (y.1 : Int) * d ≤ (x.1 : Int) * d := Int.mul_le_mul_of_nonneg_right (by omega) (by omega)
        omega
theorem find_none {α : Type} {p : α → Bool} {l : List α} (h : ∀ x ∈ l, p x = false) : l.find? p = none := by
  rw [List.find?_eq_none]
  intro x hx
  rw [h x hx]; decide
theorem find_head {α : Type} {p : α → Bool} {l : List α} (h : ∀ x ∈ l, p x = true) : l.find? p = l.head? := by
  cases l with
  | nil => rfl
  | cons x l => rw [List.find?_cons_of_pos (h x List.mem_cons_self)]; rfl
section
variable {n d : Int} {hi lo : Ring}
theorem before_is (hd : 0 < d) (h1 : ∀ x ∈ hi, n < (x.1 : Int) * d) (h2 : ∀ x ∈ lo, (x.1 : Int) * d ≤ n) : Vbwsah.beforeOf (hi ++ lo) (Frac.made n d) = lo.head? := by
  unfold Vbwsah.beforeOf
  rw [List.find?_append, find_none (l := hi), find_head (l := lo)]
  · rfl
  · intro x hx
    rw [of_le_made hd]; exact decide_eq_true (h2 x hx)
  · intro x hx
    rw [of_le_made hd]; exact decide_eq_false (by have := h1 x hx; omega)
theorem behind_is (hd : 0 < d) (h1 : ∀ x ∈ hi, n < (x.1 : Int) * d) (h2 : ∀ x ∈ lo, (x.1 : Int) * d ≤ n) : Vbwsah.behindOf (hi ++ lo) (Frac.made n d) = hi.reverse.head? := by
  unfold Vbwsah.behindOf
  rw [List.reverse_append, List.find?_append, find_none (l := lo.reverse), find_head (l := hi.reverse)]
  · rfl
  · intro x hx
    rw [made_lt_of hd]; exact decide_eq_true (h1 x (List.mem_reverse.mp hx))
  · intro x hx
    rw [made_lt_of hd]; exact decide_eq_false (by have := h2 x (List.mem_reverse.mp hx); omega)
theorem min_cap (hd : 0 < d) (t : Nat) : (Frac.made n d).min (Frac.of ((t : Int) + Vbwsah.AHEAD)) = Frac.made (capN n t d) d := by
  rw [made_min_of hd]
  unfold capN
  show (if n ≤ ((t : Int) + 3) * d then _ else Frac.made ((t : Int) + 3) 1) = _
  by_cases c : n ≤ ((t : Int) + 3) * d
  · rw [if_pos c, if_neg (by omega)]
  · rw [if_neg c, if_pos (by omega)]
    exact made_eq (by decide) hd (by rw [Int.mul_one])
theorem cap_id {t : Nat} (hd : 0 < d) (h : n < (t : Int) * d) : capN n t d = n := by
  unfold capN
  have : ((t : Int) + 3) * d = (t : Int) * d + 3 * d := Int.add_mul _ _ _
  rw [if_neg (by omega)]
end
theorem val_len {σ : L2.St} {H : Hp} {te : TE} {a : Addr} {xs : List V} (h : Val te σ H (.ref a)) (ha : H a = some (.lst xs)) : Val (fun σ H Q => (tCons te tNil) σ H fun vs H1 => ∃ p xs, vs = [.ref p] ∧ (SqL K H1 p xs ∨ SqT K H1 p xs) ∧ Q (.int (xs.length : Int)) H1) σ H (.int (xs.length : Int)) := fun Q q => h _ ⟨a, xs, rfl, .inl (SqL.of ha), q⟩
def spShown (Z : Cs) : Sp := fun vs H Q _ => ∃ (L : Lb) (wd : Addr) (lw : List (Int × Addr)) (r : Ring) (k : Nat) (n d : Int), vs = [.ref wd, .int (k : Int), .int n, .int d] ∧ H wd = some (.dK (encR lw)) ∧ RingR L H lw r ∧ (r.map (·.1)).Pairwise (· > ·) ∧ r.length ≤ 1000 ∧ (∀ x ∈ r, x.1 ≤ 10000) ∧
  0 ≤ n ∧ n ≤ 1000000 ∧ 1 ≤ d ∧ d ≤ 1000 ∧ (Vbwsah.rendered r (Frac.made n d) k = none → ∀ H', Same H H' → Q .non H') ∧
  (∀ f, Vbwsah.rendered r (Frac.made n d) k = some f → ∀ H' p u l, Same H H' → H' p = some (.tup [.int u, .int l]) → 0 < l → l < 2 ^ 60 → Frac.made u l = f → Q (.ref p) H')
theorem ok_shown_value (T : Txt K mg Z) : DefOk P w K mg base 4 "shown_value" ["worlds", "key", "n", "d"] (spShown Z) := by
  refine T.f_shown_value.ok sc_shown_value (fun vs H Q E h => ?_) (fun f cdv A outer s H vs Q E hr h => ⟨_, (pss_cons (ps_set (i := 4) sc_shown_value.nd rfl (Or.inl rfl) (pe_callB (cr_sortedDA rfl) (by rfl) T.n_sorted (by decide +kernel) (pa_cons (pv 0) pa_nil)))
      (pss_cons (ps_setLc (i := 5) (te := tVar 7) (own := [("tick", 7)]) (g := gName 7) (tt := tTest (tOp (rI0 fun i j => .bl (decide (j < i))) (tOp (rI CMul fun i j => .int (i * j)) (tVar 7) (tVar 3)) (tVar 2))) rfl sc_shown_value.nd rfl rfl (sw_true rfl rfl rfl (by decide +kernel)) (pi_list (pv 4)) (blkOk_by (own := [("tick", 7)]) (N := ["worlds", "key", "n", "d", "ticks", "greater", "second", "tick"]) (sc := defScope s_shown_value) (by decide +kernel)) (fun _ _ _ _ _ => by exact pg_name (i := 7) sc_shown_value.nd rfl (Or.inl rfl)) (fun _ _ _ _ _ => by exact pts_one (pt_cmpR op_gt (pe_op op_mul (pv 7) (pv 3)) (pv 2) (nomark _))) (fun _ _ _ _ _ => by exact (pv 7)))
      (pss_cons (ps_if (PW.pt (pw_or (pt_cmpR op_lt (pe_callB call_len_seq (by rfl) T.n_len (by decide +kernel) (pa_cons (pv 4) pa_nil)) pe_int (nomark _)) (pw_or1 (pt_cmpR op_eq (pe_callB call_len_seq (by rfl) T.n_len (by decide +kernel) (pa_cons (pv 5) pa_nil)) (pe_callB call_len_seq (by rfl) T.n_len (by decide +kernel) (pa_cons (pv 4) pa_nil)) (nomark _))))) (pss_one (ps_ret (pe_def (ok_value_in_first T) hr (pa_cons (pv 0) (pa_cons (pv 4) (pa_cons (pv 1) pa_nil)))))) pss_nil)
      (pss_cons (ps_if (pt_truth (pv 5) (by intro _; rfl)) (pss_one (ps_set (i := 6) sc_shown_value.nd rfl (Or.inl rfl) (pe_op op_sub (pe_callB call_len_seq (by rfl) T.n_len (by decide +kernel) (pa_cons (pv 4) pa_nil)) (pe_callB call_len_seq (by rfl) T.n_len (by decide +kernel) (pa_cons (pv 5) pa_nil))))) (pss_one (ps_set (i := 6) sc_shown_value.nd rfl (Or.inl rfl) (pe_op op_sub (pe_callB call_len_seq (by rfl) T.n_len (by decide +kernel) (pa_cons (pv 4) pa_nil)) pe_int))))
      (pss_one (ps_ret (pe_def (ok_value_between T) hr (pa_cons (pv 0) (pa_cons (pe_ix ix_list (pv 4) (pe_op op_sub (pv 6) pe_int) (fun _ _ => rfl)) (pa_cons (pe_ix ix_list (pv 4) (pv 6) (fun _ _ => rfl)) (pa_cons (pv 1) (pa_cons (pv 2) (pa_cons (pv 3) pa_nil))))))))))))), ?_⟩)
  · obtain ⟨L, wd, lw, r, k, n, d, rfl, _⟩ := h; rfl
  · obtain ⟨L, wd, lw, r, k, n, d, rfl, hw, rr, dr, hz, ht4, n0, n1, d0, d1, q0, q1⟩ := h
    have hd : 0 < d := by omega
    obtain ⟨hi, lo, er, h1, h2⟩ := ring_split (n := n) hd dr
    refine ⟨_, rfl, wd, encR lw, lw.map (·.1), rfl, .inl hw, encR_keys lw, fun ys tk hy1 hy2 htk => ?_⟩
    have ey : ys = lo.reverse.map (fun q => (q.1 : Int)) ++ hi.reverse.map (fun q => (q.1 : Int)) := by
      have hs := rr.sorted dr
      have e : ys = lw.map (·.1) := by
        refine sorted_ext ?_ hs fun x => hy1.mem_iff
        exact (List.pairwise_and_iff.mpr ⟨hy2, hy1.nodup_iff.mpr (lt_nodup hs)⟩).imp fun {x y} h => by have := h.1; have := h.2; omega
      rw [e, rr.nums, er, List.map_append, List.reverse_append, ← List.map_reverse, ← List.map_reverse]
    have hyl : ys.length ≤ 1000 := by
      rw [ey, List.length_append, List.length_map, List.length_map, List.length_reverse, List.length_reverse]
      rw [er, List.length_append] at hz
      omega
    have s0 : Same H (upd H tk (.lst (ys.map V.int))) := Same.new htk
    -- those that are greater
    refine ⟨_, rfl, tk, rfl, ⟨_, SqL.of upd_same⟩, fun D hD => ?_⟩
    have nD : tk ≠ D := ne_of_none upd_same hD
    refine lc_list (K := K) (a := tk) (xs := ys.map V.int) (fun i H' => Same H H' ∧ H' tk = some (.lst (ys.map V.int)) ∧ H' D = some (.lst (((ys.take i).filter fun t => decide (n < t * d)).map V.int))) ⟨s0.trans (Same.new hD), by rw [upd_ne nD]; exact upd_same, upd_same⟩ (fun i H' _ h => SqL.of h.2.1) ?_ ?_
    · rintro i x H1 hix ⟨sm, ht1, hD1⟩
      rw [List.getElem?_map] at hix
      cases ek : ys[i]? with
      | none => rw [ek] at hix; cases hix
      | some t =>
        rw [ek] at hix
        cases hix
        refine ⟨rfl, ⟨_, rfl, _, rfl, _, _, rfl, rfl, .inr ⟨by omega, by omega⟩, _, rfl, _, _, rfl, rfl, _, rfl, ?_⟩⟩
        have et : (ys.take (i + 1)).filter (fun t => decide (n < t * d)) = (ys.take i).filter (fun t => decide (n < t * d)) ++ [t].filter fun t => decide (n < t * d) := by rw [take_snoc ek, List.filter_append]
        by_cases c : n < t * d
        · rw [decide_eq_true c]
          refine iteT ⟨_, rfl, _, hD1, ?_, ?_⟩
          · rw [List.length_map]
            have := List.length_filter_le (fun t => decide (n < t * d)) (ys.take i)
            rw [List.length_take] at this
            exact sizeL (by omega)
          · refine ⟨MN.Same.mut sm (s0.free hD), by rw [upd_ne nD]; exact ht1, ?_⟩
            rw [upd_same, et, List.filter_cons, if_pos (decide_eq_true c), List.map_append]; rfl
        · rw [decide_eq_false c]
          refine iteF ⟨sm, ht1, ?_⟩
          rw [hD1, et, List.filter_cons, if_neg (by simpa using c), List.filter_nil, List.append_nil]
    · rintro H1 ⟨sm, ht1, hD1⟩
      rw [List.length_map, List.take_length] at hD1
      have eg : ys.filter (fun t => decide (n < t * d)) = hi.reverse.map (fun q => (q.1 : Int)) := by
        rw [ey, List.filter_append, List.filter_eq_nil_iff.mpr, List.filter_eq_self.mpr, List.nil_append]
        · intro t ht
          obtain ⟨q, hq, rfl⟩ := List.mem_map.mp ht
          exact decide_eq_true (h1 q (List.mem_reverse.mp hq))
        · intro t ht
          obtain ⟨q, hq, rfl⟩ := List.mem_map.mp ht
          have := h2 q (List.mem_reverse.mp hq)
          simpa using this
      rw [eg] at hD1
      have hw1 := sm _ _ hw
      have rr1 : RingR L H1 lw r := RingR.keep (M := fun _ => False) rr (Same.keep sm) (LSame.refl H L)
      have hbef := before_is hd h1 h2
      have hbeh := behind_is hd h1 h2
      rw [← er] at hbef hbeh
      have mhi : ∀ x ∈ hi, x ∈ r := fun x hx => by rw [er]; exact List.mem_append_left _ hx
      have mlo : ∀ x ∈ lo, x ∈ r := fun x hx => by rw [er]; exact List.mem_append_right _ hx
      -- the value in the first one
      have first : ∀ (z : Nat × Vbwsah.World) (l : List Int), z ∈ r → ys = (z.1 : Int) :: l → Vbwsah.rendered r (Frac.made n d) k = (Vbwsae.get z.2 k).map Frac.of → tRet (tCall spFirst [] E0 (tCons (tVar 0) (tCons (tVar 4) (tCons (tVar 1) tNil)))) { nx := fun _ H' => Q .non H', rt := Q } [some (.ref wd), some (.int (k : Int)), some (.int n), some (.int d), some (.ref tk), some (.ref D), none, none] H1 := by
        intro z l hz ez hren
        obtain ⟨a, _, _, wt, hv⟩ := rr1.get dr (t := z.1) (v := z.2) hz
        refine ⟨_, rfl, _, rfl, _, rfl, wd, tk, encR lw, ys, k, rfl, hw1, ht1, fun e => ?_, fun y l' e => ?_⟩
        · rw [ez] at e; cases e
        · rw [ez] at e
          obtain ⟨e1, _⟩ := List.cons.inj e
          subst e1
          refine ⟨a, z.2, hv, wt, fun g => q0 (by rw [hren, g]; rfl) H1 sm, fun v g p hp => ?_⟩
          exact q1 (Frac.of v) (by rw [hren, g]; rfl) _ p v 1 (sm.trans (Same.new hp)) upd_same (by decide) (by decide) (of_made v).symm
      -- a value between two of them
      have second : ∀ (x z : Nat × Vbwsah.World) (s : Nat), x ∈ r → z ∈ r → x.1 < z.1 → ys[s]? = some (x.1 : Int) → ys[s + 1]? = some (z.1 : Int) → Vbwsah.rendered r (Frac.made n d) k = Vbwsah.between x.1 x.2 z.1 z.2 (Frac.made (capN n z.1 d) d) k →
          tRet (tCall (spValueBetween Z) [] E0 (tCons (tVar 0) (tCons (tOp (rIxL K) (tVar 4) (tOp (rI0 fun i j => .int (i - j)) (tVar 6) (tC (.int 1)))) (tCons (tOp (rIxL K) (tVar 4) (tVar 6)) (tCons (tVar 1) (tCons (tVar 2) (tCons (tVar 3) tNil))))))) { nx := fun _ H' => Q .non H', rt := Q } [some (.ref wd), some (.int (k : Int)), some (.int n), some (.int d), some (.ref tk), some (.ref D), some (.int ((s : Int) + 1)), none] H1 := by
        intro x z s hx hz hlt e1 e2 hren
        obtain ⟨b, _, _, wb, hvb⟩ := rr1.get dr (t := x.1) (v := x.2) hx
        obtain ⟨a, _, _, wa, hva⟩ := rr1.get dr (t := z.1) (v := z.2) hz
        have i1 : atI (ys.map V.int) ((s : Int) + 1 - 1) = some (.int (x.1 : Int)) := by
          rw [show (s : Int) + 1 - 1 = (s : Int) by omega]
          exact atI_nat (by rw [List.getElem?_map, e1]; rfl)
        have i2 : atI (ys.map V.int) ((s : Int) + 1) = some (.int (z.1 : Int)) := by
          rw [show (s : Int) + 1 = ((s + 1 : Nat) : Int) by omega]
          exact atI_nat (by rw [List.getElem?_map, e2]; rfl)
        rw [between_up hd hlt] at hren
        have ml := mul_bound (a := (z.1 : Int) - x.1) (b := d) (by have := ht4 x hx; omega) (by have := ht4 z hz; omega) (by omega) d1
        have hl0 : 0 < ((z.1 : Int) - x.1) * d := Int.mul_pos (by omega) hd
        refine ⟨_, rfl, _, rfl, _, rfl, _, _, rfl, rfl, tk, _, _, _, rfl, rfl, SqL.of ht1, i1, _, rfl, _, rfl, tk, _, _, _, rfl, rfl, SqL.of ht1, i2, _, rfl, _, rfl, _, rfl, ?_⟩
        refine ⟨wd, b, a, encR lw, x.1, z.1, k, n, d, x.2, z.2, rfl, hw1, hvb, hva, wb, wa, hlt, ht4 z hz, n0, n1, d0, d1, fun e H' s' => q0 (by rw [hren, e]; rfl) H' (sm.trans s'), fun u e H' p s' hp hp' => ?_⟩
        exact q1 _ (by rw [hren, e]; rfl) H' p u _ (sm.trans s') hp' hl0 (by omega) rfl
      have lys : ys.length = lo.length + hi.length := by rw [ey, List.length_append, List.length_map, List.length_map, List.length_reverse, List.length_reverse]
      have lgr : (hi.reverse.map (fun q => (q.1 : Int))).length = hi.length := by rw [List.length_map, List.length_reverse]
      -- the test
      have at1 : Ans (tOr (tTest (tOp (rI0 fun i j => .bl (decide (i < j))) (fun σ H Q => (tCons (tVar 4) tNil) σ H fun vs H1 => ∃ p xs, vs = [.ref p] ∧ (SqL K H1 p xs ∨ SqT K H1 p xs) ∧ Q (.int (xs.length : Int)) H1) (tC (.int 2)))) (tTest (tOp rEq (fun σ H Q => (tCons (tVar 5) tNil) σ H fun vs H1 => ∃ p xs, vs = [.ref p] ∧ (SqL K H1 p xs ∨ SqT K H1 p xs) ∧ Q (.int (xs.length : Int)) H1) (fun σ H Q => (tCons (tVar 4) tNil) σ H fun vs H1 => ∃ p xs, vs = [.ref p] ∧ (SqL K H1 p xs ∨ SqT K H1 p xs) ∧ Q (.int (xs.length : Int)) H1))))
          [some (.ref wd), some (.int (k : Int)), some (.int n), some (.int d), some (.ref tk), some (.ref D), none, none] H1 (decide (lo.length + hi.length < 2) || decide (lo.length = 0)) := by
        refine ans_orB (ans_cmp (val_len (val_var rfl) ht1) val_c fun Q q => ⟨_, _, rfl, rfl, ?_⟩) (ans_eq (val_len (val_var rfl) hD1) (val_len (val_var rfl) ht1) rfl ?_)
        · have e : decide (((ys.map V.int).length : Int) < 2) = decide (lo.length + hi.length < 2) := decide_eq_decide.mpr (by rw [List.length_map, lys]; omega)
          show Q (.bl (decide (((ys.map V.int).length : Int) < 2))) H1
          rw [e]; exact q
        · refine decide_eq_decide.mpr ?_
          have e5 : ((hi.reverse.map (fun q => (q.1 : Int))).map V.int).length = hi.length := by rw [List.length_map, lgr]
          have e4 : (ys.map V.int).length = lo.length + hi.length := by rw [List.length_map, lys]
          rw [e5, e4]
          constructor
          · intro z
            have := V.int.inj z
            omega
          · intro z
            rw [z]; congr 1; omega
      have atG : Ans (fun σ H Q => tVar 5 σ H fun x H' => ∃ k, TruV K x H' k ∧ Q k H') [some (.ref wd), some (.int (k : Int)), some (.int n), some (.int d), some (.ref tk), some (.ref D), none, none] H1 (!hi.isEmpty) := by
        refine ans_tru (val_var rfl) (.inl ⟨_, SqL.of hD1, ?_⟩)
        cases hi with
        | nil => rfl
        | cons z hs => simp
      cases lo with
      | nil =>
        refine st_seq (st_y at1 (by simp) ?_)
        cases eh : hi.reverse with
        | nil =>
          have e0 : hi = [] := List.reverse_eq_nil_iff.mp eh
          subst e0
          have e1 : r = [] := er
          have ys0 : ys = [] := by rw [ey]; rfl
          refine ⟨_, rfl, _, rfl, _, rfl, wd, tk, encR lw, ys, k, rfl, hw1, ht1, fun e => ?_, fun y l e => ?_⟩
          · exact q0 (by rw [e1]; rfl) H1 sm
          · rw [ys0] at e; cases e
        | cons z hs =>
          have hzm : z ∈ r := mhi z (List.mem_reverse.mp (by rw [eh]; exact List.mem_cons_self))
          refine first z (hs.map fun q => (q.1 : Int)) hzm (by rw [ey, eh]; rfl) ?_
          unfold Vbwsah.rendered
          rw [hbef, hbeh, eh]; rfl
      | cons x l =>
        have hxm : x ∈ r := mlo x List.mem_cons_self
        cases eh : hi.reverse with
        | nil =>
          have e0 : hi = [] := List.reverse_eq_nil_iff.mp eh
          subst e0
          have e1 : r = x :: l := er
          cases l with
          | nil =>
            refine st_seq (st_y at1 (by simp) ?_)
            refine first x [] hxm (by rw [ey]; rfl) ?_
            unfold Vbwsah.rendered
            rw [hbef, hbeh, e1]; rfl
          | cons y l =>
            have hym : y ∈ r := mlo y (List.mem_cons_of_mem _ List.mem_cons_self)
            have hyx : y.1 < x.1 := by
              rw [e1, List.map_cons, List.pairwise_cons] at dr
              exact dr.1 y.1 (by simp)
            refine st_seq (st_n at1 (by simp) ?_)
            refine st_seq (st_n atG rfl ?_)
            refine st_set (val_op (val_len (val_var rfl) ht1) val_c fun Q q => ⟨_, _, rfl, rfl, q⟩) ?_
            have ey2 : ys = l.reverse.map (fun q => (q.1 : Int)) ++ [(y.1 : Int), (x.1 : Int)] := by rw [ey]; simp
            have en : ((ys.map V.int).length : Int) - 1 = (l.length : Int) + 1 := by
              rw [List.length_map, lys]
              simp only [List.length_cons, List.length_nil]
              omega
            have := second y x l.length hym hxm hyx (by rw [ey2, List.getElem?_append_right (by simp)]; simp) (by rw [ey2, List.getElem?_append_right (by simp)]; simp) (by
              unfold Vbwsah.rendered
              rw [hbef, hbeh, e1]
              show Vbwsah.between y.1 y.2 x.1 x.2 ((Frac.made n d).min (Frac.of ((x.1 : Int) + Vbwsah.AHEAD))) k = _
              rw [min_cap hd])
            rw [← en] at this
            exact this
        | cons z hs =>
          have hzh : z ∈ hi := List.mem_reverse.mp (by rw [eh]; exact List.mem_cons_self)
          have hzm : z ∈ r := mhi z hzh
          have hxz : x.1 < z.1 := by
            have h3 := h1 z hzh
            have h4 := h2 x List.mem_cons_self
            rcases Nat.lt_or_ge x.1 z.1 with h | h
            · exact h
            · exfalso
              have : (z.1 : Int) * d ≤ (x.1 : Int) * d := Int.mul_le_mul_of_nonneg_right (by omega) (by omega)
              omega
          have hil : hi.length = hs.length + 1 := by
            have := congrArg List.length eh
            rw [List.length_reverse] at this
            exact this
          have hie : hi.isEmpty = false := by
            cases hi with
            | nil => simp at eh
            | cons _ _ => rfl
          refine st_seq (st_n at1 (by
            rw [Bool.or_eq_false_iff]
            exact ⟨decide_eq_false (by rw [hil, List.length_cons]; omega), decide_eq_false (by simp)⟩) ?_)
          refine st_seq (st_y atG (by rw [hie]; rfl) ?_)
          refine st_set (val_op (val_len (val_var rfl) ht1) (val_len (val_var rfl) hD1) fun Q q => ⟨_, _, rfl, rfl, q⟩) ?_
          have ey2 : ys = l.reverse.map (fun q => (q.1 : Int)) ++ ((x.1 : Int) :: (z.1 : Int) :: hs.map fun q => (q.1 : Int)) := by rw [ey, eh]; simp
          have en : ((ys.map V.int).length : Int) - (((hi.reverse.map (fun q => (q.1 : Int))).map V.int).length : Int) = (l.length : Int) + 1 := by
            rw [List.length_map, List.length_map, lys, lgr, List.length_cons]
            omega
          have := second x z l.length hxm hzm hxz (by rw [ey2, List.getElem?_append_right (by simp)]; simp) (by rw [ey2, List.getElem?_append_right (by simp)]; simp) (by
            rw [cap_id hd (h1 z hzh)]
            unfold Vbwsah.rendered
            rw [hbef, hbeh, eh]; rfl)
          rw [← en] at this
          exact this
end MN
set_option Elab.async false
set_option maxRecDepth 100000
set_option maxHeartbeats 2000000
set_option linter.unusedVariables false
namespace MN
open PySem PySem.Spec PyProof.Rows L2
open Vbwsah (Input Numbered Known Client State Packet Ring Frac)
variable {P : Program} {w : World} {K : PySem.W.Frag} {mg : Str → Option Value} {base : Heap} {Z : Cs}
theorem fracRow_cons (f : Frac) : (0 :: Vbwsah.fracRow f).map V.int = [V.int 0] ++ fracV f := rfl
theorem ok_render (T : Txt K mg Z) : DefOk P w K mg base 5 "render" ["net", "number", "key", "n", "d"] (fun vs H Q E => ∃ c k n d : Int, spCall Z (.render c k n d) [.int c, .int k, .int n, .int d] vs H Q E) := by
  refine T.f_render.ok sc_render (fun vs H Q E h => ?_) (fun f cdv A outer s H vs Q E hr h => ⟨_, (pss_cons (ps_if (pt_cmp (pc_dnotin (hu_of hr) (pv 1) (pe_fld (pv 0) rfl))) (pss_one (ps_ret (pe_lst (pa_cons (pe_gc T.c_NO_SUCH) pa_nil)))) pss_nil)
      (pss_cons (ps_if (pt_not (PW.pt (pw_and (pt_chain op_le op_le pe_int (pv 2) (pe_gc T.c_GREATEST_KEY)) (pw_and1 (pt_val (pe_def (ok_is_time T) hr (pa_cons (pv 3) (pa_cons (pv 4) pa_nil)))))))) (pss_one (ps_ret (pe_lst (pa_cons (pe_gc T.c_OUT_OF_RANGE) pa_nil)))) pss_nil)
      (pss_cons (ps_set (i := 5) sc_render.nd rfl (Or.inl rfl) (pe_def (ok_shown_value T) hr (pa_cons (pe_fld (pe_dget (hu_of hr) (pe_fld (pv 0) rfl) (pv 1) (fun _ _ => rfl)) rfl) (pa_cons (pv 2) (pa_cons (pv 3) (pa_cons (pv 4) pa_nil))))))
      (pss_cons (ps_if (pt_cmpR op_isN (pv 5) pe_non (nomark _)) (pss_one (ps_ret (pe_lst (pa_cons (pe_gc T.c_NOTHING_SHOWN) pa_nil)))) pss_nil)
      (pss_one (ps_ret (pe_op op_cat (pe_lst (pa_cons pe_int pa_nil)) (pe_def (ok_least_terms T) hr (pa_cons (pe_ix ix_tup (pv 5) pe_int (fun _ _ => rfl)) (pa_cons (pe_ix ix_tup (pv 5) pe_int (fun _ _ => rfl)) pa_nil)))))))))), ?_⟩)
  · obtain ⟨c, k, nn, d, L, net, s, n, hist, rfl, _⟩ := h; rfl
  · obtain ⟨c, ky, nu, d, L, net, st, n, hist, rfl, ⟨A, sa⟩, iv, hn, q⟩ := h
    have q : Wants Z (.render c ky nu d) L H net st Q := q
    have h0 := sa.h0
    rcases sa.onCl iv c with ⟨no, e1, e2⟩ | ⟨k, p, p', x, x', l1, l2, l1', l2', m1, m2, m1', m2', rfl, s1, s2, on⟩
    · refine st_seq (st_y (val_dnotin (val_var rfl) (val_net (f := "clients") (val_var rfl) h0 T T.na_Net_clients lk_Net_clients) sa.hc) (by rw [e1]; rfl) ?_)
      refine st_retL (fun Q q => q) (by decide) fun p hp => q.same sa (xs := [-1]) ?_ (Same.refl H) hp
      rw [Vbwsah.step, no]
    refine st_seq (st_n (val_dnotin (val_var rfl) (val_net (f := "clients") (val_var rfl) h0 T T.na_Net_clients lk_Net_clients) sa.hc) (by rw [s1.val]; rfl) ?_)
    obtain ⟨dx, wd, idd, lw, li, bo, cp⟩ := s1.r
    obtain ⟨all, recv, per⟩ := iv.per _ _ _ s2.mem s1.mem
    have dring : (x.ring.map (·.1)).Pairwise (· > ·) := by rw [per.ring]; exact per.dRecv.sublist (List.take_sublist _ _)
    have hrl : x.ring.length ≤ 16 := by
      have := congrArg List.length per.ring
      rw [List.length_map, List.length_take] at this
      omega
    have est : Vbwsah.step st (.render (k : Int) ky nu d) = if (inR 0 4095 ky && (inR 0 1000000 nu && inR 1 1000 d)) = true then (match Vbwsah.rendered x.ring (Frac.made nu d) ky.toNat with | none => (st, [-7]) | some f => (st, 0 :: Vbwsah.fracRow f)) else (st, [-2]) := by
      rw [Vbwsah.step, on]
      have e1 : Vbwsah.inside ky 0 4095 = inR 0 4095 ky := rfl
      have e2 : Vbwsah.inside nu 0 Vbwsah.BIG = inR 0 1000000 nu := rfl
      have e3 : Vbwsah.inside d 1 1000 = inR 1 1000 d := rfl
      rw [e1, e2, e3]
      cases inR 0 4095 ky with
      | false => rfl
      | true =>
        cases inR 0 1000000 nu with
        | false => rfl
        | true =>
          cases inR 1 1000 d with
          | false => rfl
          | true =>
            rw [if_neg (by simp), if_pos (by decide)]
            cases Vbwsah.rendered x.ring (Frac.made nu d) ky.toNat <;> rfl
    have at1 : Ans (tNot (tAnd (tTest (tChain (rI0 fun i j => .bl (decide (i ≤ j))) (rI0 fun i j => .bl (decide (i ≤ j))) (tC (.int 0)) (tVar 2) (tC (.int 4095)))) (tB (tCall (spB2 fun n d => inR 0 1000000 n && inR 1 1000 d) [] E0 (tCons (tVar 3) (tCons (tVar 4) tNil)))))) [some (.ref net), some (.int (k : Int)), some (.int ky), some (.int nu), some (.int d), none] H (!(inR 0 4095 ky && (inR 0 1000000 nu && inR 1 1000 d))) :=
      ans_not (ans_and2 (ans_test (ans_chainLe val_c (val_var rfl) val_c)) (ans_val (val_B2 (f := fun n d => inR 0 1000000 n && inR 1 1000 d) (val_var rfl) (val_var rfl))))
    by_cases c1 : (inR 0 4095 ky && (inR 0 1000000 nu && inR 1 1000 d)) = true
    · rw [if_pos c1] at est
      refine st_seq (st_n at1 (by rw [c1]; rfl) ?_)
      have hr3 : (0 ≤ ky ∧ ky ≤ 4095) ∧ (0 ≤ nu ∧ nu ≤ 1000000) ∧ (1 ≤ d ∧ d ≤ 1000) := by
        unfold inR at c1
        simp only [Bool.and_eq_true, decide_eq_true_eq] at c1
        exact ⟨c1.1, c1.2.1, c1.2.2⟩
      have eky : ky = ((ky.toNat : Nat) : Int) := by omega
      have htk : ∀ y ∈ x.ring, y.1 ≤ 10000 := fun y hy => by
        have : y.1 ∈ recv.take 16 := by rw [← per.ring]; exact List.mem_map.mpr ⟨y, hy, rfl⟩
        have h1 := (per.tAll _ (per.sub _ (List.mem_of_mem_take this))).2
        have h2 := iv.tick
        omega
      refine ⟨_, rfl, net, Z.Net, A.dx, _, _, rfl, h0, T.cl_Net, T.na_Net_clients, lk_Net_clients, _, rfl, A.cd, .ref p.2, rfl, s1.val ▸ DGet.k (k := ik (k : Int)) sa.hc, p.2, Z.Client, dx, _, _, rfl, cp.h1, T.cl_Client, T.na_Client_worlds, lk_Client_worlds, _, rfl, _, rfl, _, rfl, ?_⟩
      refine ⟨L, wd, lw, x.ring, ky.toNat, nu, d, by rw [← eky]; rfl, cp.h2, cp.r2, dring, by omega, htk, hr3.2.1.1, hr3.2.1.2, hr3.2.2.1, hr3.2.2.2, fun er H1 sm => ?_, fun f er H1 pt u l sm hpt hl0 hl1 hf => ?_⟩
      · rw [er] at est
        refine ⟨_, rfl, rfl, _, rfl, iteT ?_⟩
        exact st_retL (fun Q q => q) (by decide) fun p hp => q.same sa (xs := [-7]) est sm hp
      · rw [er] at est
        refine ⟨_, rfl, rfl, _, rfl, ?_⟩
        rw [decide_eq_false (show ¬ V.ref pt = V.non from fun z => nomatch z)]
        refine iteF ⟨(by show 1 ≤ sizeLine; decide), fun C hC => ?_⟩
        have s0 : Same H1 (upd H1 C (.lst [.int 0])) := Same.new hC
        refine ⟨_, rfl, pt, _, _, _, rfl, rfl, SqT.of (s0 _ _ hpt), atI_nat (j := 0) rfl, _, rfl, pt, _, _, _, rfl, rfl, SqT.of (s0 _ _ hpt), atI_nat (j := 1) rfl, u, l, rfl, hl0, hl1, fun p2 hp2 => ?_⟩
        have sm2 := s0.trans (Same.new (o := .lst (fracV (Frac.made u l))) hp2)
        refine ⟨C, p2, _, _, rfl, rfl, by rw [upd_ne (ne_of_none upd_same hp2)]; exact upd_same, upd_same, (by show 3 ≤ sizeLine; decide), fun r hr => ?_⟩
        rw [hf, ← fracRow_cons]
        rw [hf] at sm2 hr
        exact q.same sa est (sm.trans sm2) hr
    · rw [if_neg c1] at est
      refine st_seq (st_y at1 (by
        have c1 : (inR 0 4095 ky && (inR 0 1000000 nu && inR 1 1000 d)) = false := by simpa using c1
        rw [c1]; rfl) ?_)
      exact st_retL (fun Q q => q) (by decide) fun p hp => q.same sa (xs := [-2]) est (Same.refl H) hp
end MN
set_option Elab.async false
set_option maxRecDepth 100000
set_option maxHeartbeats 2000000
set_option linter.unusedVariables false
namespace MN
open PySem PySem.Spec PyProof.Rows L2
open Vbwsah (Input Numbered Known Client State Packet Ring Frac)
variable {P : Program} {w : World} {K : PySem.W.Frag} {mg : Str → Option Value} {base : Heap} {Z : Cs}
section
variable {σ : L2.St} {H : Hp} {ta tb : TE} {i j : Int}
theorem val_mul (h1 : Val ta σ H (.int i)) (h2 : Val tb σ H (.int j)) (hc : CMul i j) : Val (tOp (rI CMul fun i j => .int (i * j)) ta tb) σ H (.int (i * j)) := val_op h1 h2 fun Q q => ⟨i, j, rfl, rfl, hc, q⟩
theorem val_sub (h1 : Val ta σ H (.int i)) (h2 : Val tb σ H (.int j)) : Val (tOp (rI0 fun i j => .int (i - j)) ta tb) σ H (.int (i - j)) := val_op h1 h2 fun Q q => ⟨i, j, rfl, rfl, q⟩
theorem val_add (h1 : Val ta σ H (.int i)) (h2 : Val tb σ H (.int j)) : Val (tOp (rI0 fun i j => .int (i + j)) ta tb) σ H (.int (i + j)) := val_op h1 h2 fun Q q => ⟨i, j, rfl, rfl, q⟩
theorem val_notV {b : Bool} (h : Val ta σ H (.bl b)) : Val (tNotV ta) σ H (.bl (!b)) := fun Q q => h _ ⟨b, rfl, q⟩
theorem val_eqI (h1 : Val ta σ H (.int i)) (h2 : Val tb σ H (.int j)) : Val (tOp rEq ta tb) σ H (.bl (decide (i = j))) := val_op h1 h2 fun Q q => ⟨rfl, by
  have e : decide (V.int i = V.int j) = decide (i = j) := decide_eq_decide.mpr ⟨fun z => V.int.inj z, fun z => by rw [z]⟩
  rw [e]; exact q⟩
theorem ans_leI (h1 : Val ta σ H (.int i)) (h2 : Val tb σ H (.int j)) : Ans (tTest (tOp (rI0 fun i j => .bl (decide (i ≤ j))) ta tb)) σ H (decide (i ≤ j)) := ans_cmp h1 h2 fun Q q => ⟨i, j, rfl, rfl, q⟩
end
theorem ok_is_direction (T : Txt K mg Z) : DefOk P w K mg base 1 "is_direction" ["dx", "dy"] (spB2 fun a b => (inR (-1000) 1000 a && inR (-1000) 1000 b) && !(decide (a = 0) && decide (b = 0))) := by
  refine T.f_is_direction.ok sc_is_direction (fun vs H Q E h => ?_) (fun f cdv A outer s H vs Q E hr h => ⟨_, (pss_cons (ps_set (i := 2) sc_is_direction.nd rfl (Or.inl rfl) (pe_and (pe_chain op_le op_le (pe_un un_neg (pe_gc T.c_GREATEST_STEP)) (pv 0) (pe_gc T.c_GREATEST_STEP)) (pe_one (pe_chain op_le op_le (pe_un un_neg (pe_gc T.c_GREATEST_STEP)) (pv 1) (pe_gc T.c_GREATEST_STEP)))))
      (pss_one (ps_ret (pe_and (pv 2) (pe_one (pe_not (pe_and (pe_cmpR op_eq (pv 0) pe_int (nomark _)) (pe_one (pe_cmpR op_eq (pv 1) pe_int (nomark _)))))))))), ?_⟩)
  · obtain ⟨i, j, rfl, _⟩ := h; rfl
  · obtain ⟨i, j, rfl, q⟩ := h
    refine st_seq (st_set (val_andV (ans_chainLe (lo := -1000) (hi := 1000) (fun Q q => ⟨_, rfl, q⟩) (val_var rfl) val_c) (ans_chainLe (lo := -1000) (hi := 1000) (fun Q q => ⟨_, rfl, q⟩) (val_var rfl) val_c)) ?_)
    exact st_ret (val_andV (val_var rfl) (val_notV (val_andV (val_eqI (val_var rfl) val_c) (val_eqI (val_var rfl) val_c)))) q
/-! ### a shot -/
abbrev oShot (Z : Cs) (dd : Addr) (x y dx dy s : Int) : HO := .ins Z.Shot dd (fShot (.int x) (.int y) (.int dx) (.int dy) (.int s))
def spShotInit (Z : Cs) : Sp := fun vs H Q _ => ∃ (sh dd : Addr) (x y dx dy : Int), vs = [.ref sh, .int x, .int y, .int dx, .int dy] ∧ H sh = some (.ins Z.Shot dd []) ∧ -1000 ≤ dx ∧ dx ≤ 1000 ∧ -1000 ≤ dy ∧ dy ≤ 1000 ∧ Q .non (upd H sh (oShot Z dd x y dx dy (dx * dx + dy * dy)))
theorem mk_Shot (T : Txt K mg Z) : MakeOk P w K mg base Z.Shot 1 "Shot" ["self", "x", "y", "dx", "dy"] (spShotInit Z) := by
  refine T.f_Shot___init__.ok sc_Shot___init__ (fun vs H Q E h => ?_) (fun f cdv A outer s H vs Q E hr h => ⟨_, (pss_cons (ps_fld (pv 0) (pv 1) rfl)
      (pss_cons (ps_fld (pv 0) (pv 2) rfl)
      (pss_cons (ps_fld (pv 0) (pv 3) rfl)
      (pss_cons (ps_fld (pv 0) (pv 4) rfl)
      (pss_one (ps_fld (pv 0) (pe_op op_add (pe_op op_mul (pv 3) (pv 3)) (pe_op op_mul (pv 4) (pv 4))) rfl)))))), ?_⟩)
  · obtain ⟨sh, dd, x, y, dx, dy, rfl, _⟩ := h; rfl
  · obtain ⟨sh, dd, x, y, dx, dy, rfl, hx, x0, x1, y0, y1, q⟩ := h
    refine ⟨_, rfl, _, rfl, sh, Z.Shot, dd, _, rfl, hx, T.cl_Shot, T.na_Shot_x, (by show 0 < 1000; decide), ?_⟩
    refine ⟨_, rfl, _, rfl, sh, Z.Shot, dd, _, rfl, upd_same, T.cl_Shot, T.na_Shot_y, (by show 1 < 1000; decide), ?_⟩
    refine ⟨_, rfl, _, rfl, sh, Z.Shot, dd, _, rfl, upd_same, T.cl_Shot, T.na_Shot_dx, (by show 2 < 1000; decide), ?_⟩
    refine ⟨_, rfl, _, rfl, sh, Z.Shot, dd, _, rfl, upd_same, T.cl_Shot, T.na_Shot_dy, (by show 3 < 1000; decide), ?_⟩
    refine ⟨_, rfl, _, rfl, _, _, rfl, rfl, .inl ⟨by omega, by omega⟩, _, rfl, _, rfl, _, _, rfl, rfl, .inl ⟨by omega, by omega⟩, _, _, rfl, rfl, _, rfl, sh, Z.Shot, dd, _, rfl, upd_same, T.cl_Shot, T.na_Shot_squared_step, (by show 4 < 1000; decide), ?_⟩
    rw [upd_upd, upd_upd, upd_upd, upd_upd]
    exact q
structure WayB (x y dx dy ux uy l : Int) : Prop where
  x0 : 0 ≤ x
  x1 : x ≤ 1000
  y0 : 0 ≤ y
  y1 : y ≤ 1000
  dx0 : -1000 ≤ dx
  dx1 : dx ≤ 1000
  dy0 : -1000 ≤ dy
  dy1 : dy ≤ 1000
  ux0 : -1000000000000 ≤ ux
  ux1 : ux ≤ 1000000000000
  uy0 : -1000000000000 ≤ uy
  uy1 : uy ≤ 1000000000000
  l0 : 0 ≤ l
  l1 : l ≤ 100000000
theorem mul_le {a b A B : Int} (a0 : -A ≤ a) (a1 : a ≤ A) (b0 : -B ≤ b) (b1 : b ≤ B) : -(A * B) ≤ a * b ∧ a * b ≤ A * B := by
  have hA : 0 ≤ A := by omega
  have hB : 0 ≤ B := by omega
  have h := Int.natAbs_mul a b
  have h1 : a.natAbs ≤ A.toNat := by omega
  have h2 : b.natAbs ≤ B.toNat := by omega
  have h3 := Nat.mul_le_mul h1 h2
  have h4 : ((A.toNat * B.toNat : Nat) : Int) = A * B := by
    rw [Int.natCast_mul, Int.toNat_of_nonneg hA, Int.toNat_of_nonneg hB]
  have h5 : ((a * b).natAbs : Int) ≤ A * B := by
    rw [h, ← h4]
    omega
  omega
def spWay (Z : Cs) : Sp := fun vs H Q _ => ∃ (sh dd : Addr) (x y dx dy ux uy l : Int), vs = [.ref sh, .int ux, .int uy, .int l] ∧ H sh = some (oShot Z dd x y dx dy (dx * dx + dy * dy)) ∧ WayB x y dx dy ux uy l ∧ Q (optV (wayOf x y dx dy ux uy l)) H
theorem ok_Shot_way_to (T : Txt K mg Z) : MethOk P w K mg base Z.Shot 1 "way_to" ["self", "upper_x", "upper_y", "lower"] (spWay Z) := by
  refine T.f_Shot_way_to.ok sc_Shot_way_to (fun vs H Q E h => ?_) (fun f cdv A outer s H vs Q E hr h => ⟨_, (pss_cons (ps_set (i := 4) sc_Shot_way_to.nd rfl (Or.inl rfl) (pe_op op_sub (pv 1) (pe_op op_mul (pe_fld (pv 0) rfl) (pv 3))))
      (pss_cons (ps_set (i := 5) sc_Shot_way_to.nd rfl (Or.inl rfl) (pe_op op_sub (pv 2) (pe_op op_mul (pe_fld (pv 0) rfl) (pv 3))))
      (pss_cons (ps_set (i := 6) sc_Shot_way_to.nd rfl (Or.inl rfl) (pe_op op_add (pe_op op_mul (pv 4) (pe_fld (pv 0) rfl)) (pe_op op_mul (pv 5) (pe_fld (pv 0) rfl))))
      (pss_cons (ps_set (i := 7) sc_Shot_way_to.nd rfl (Or.inl rfl) (pe_op op_mul (pe_op op_mul (pe_gc T.c_GREATEST_SQUARED_DISTANCE) (pv 3)) (pv 3)))
      (pss_cons (ps_if (pt_cmpR op_le (pv 6) pe_int (nomark _)) (pss_one (ps_ret (pe_ifExp (pt_cmpR op_le (pe_op op_add (pe_op op_mul (pv 4) (pv 4)) (pe_op op_mul (pv 5) (pv 5))) (pv 7) (nomark _)) pe_int pe_non))) pss_nil)
      (pss_cons (ps_set (i := 8) sc_Shot_way_to.nd rfl (Or.inl rfl) (pe_op op_sub (pe_op op_mul (pv 4) (pe_fld (pv 0) rfl)) (pe_op op_mul (pv 5) (pe_fld (pv 0) rfl))))
      (pss_one (ps_ret (pe_ifExp (pt_cmpR op_le (pe_op op_mul (pv 8) (pv 8)) (pe_op op_mul (pv 7) (pe_fld (pv 0) rfl)) (nomark _)) (pv 6) pe_non))))))))), ?_⟩)
  · obtain ⟨sh, dd, x, y, dx, dy, ux, uy, l, rfl, _⟩ := h; rfl
  · obtain ⟨sh, dd, x, y, dx, dy, ux, uy, l, rfl, hs, b, q⟩ := h
    obtain ⟨x0, x1, y0, y1, dx0, dx1, dy0, dy1, ux0, ux1, uy0, uy1, l0, l1⟩ := b
    have vx : ∀ {σ : L2.St}, σ[0]? = some (some (.ref sh)) → Val (tFld K (tVar 0) "x") σ H (.int x) := fun {σ} h => val_fld (val_var h) hs T.cl_Shot T.na_Shot_x lk_Shot_x
    have vy : ∀ {σ : L2.St}, σ[0]? = some (some (.ref sh)) → Val (tFld K (tVar 0) "y") σ H (.int y) := fun {σ} h => val_fld (val_var h) hs T.cl_Shot T.na_Shot_y lk_Shot_y
    have vdx : ∀ {σ : L2.St}, σ[0]? = some (some (.ref sh)) → Val (tFld K (tVar 0) "dx") σ H (.int dx) := fun {σ} h => val_fld (val_var h) hs T.cl_Shot T.na_Shot_dx lk_Shot_dx
    have vdy : ∀ {σ : L2.St}, σ[0]? = some (some (.ref sh)) → Val (tFld K (tVar 0) "dy") σ H (.int dy) := fun {σ} h => val_fld (val_var h) hs T.cl_Shot T.na_Shot_dy lk_Shot_dy
    have vs : ∀ {σ : L2.St}, σ[0]? = some (some (.ref sh)) → Val (tFld K (tVar 0) "squared_step") σ H (.int (dx * dx + dy * dy)) := fun {σ} h => val_fld (val_var h) hs T.cl_Shot T.na_Shot_squared_step lk_Shot_squared_step
    have m1 := mul_le (a := x) (b := l) (A := 1000) (B := 100000000) (by omega) (by omega) (by omega) (by omega)
    have m2 := mul_le (a := y) (b := l) (A := 1000) (B := 100000000) (by omega) (by omega) (by omega) (by omega)
    unfold wayOf at q
    refine st_seq (st_set (val_sub (val_var rfl) (val_mul (vx rfl) (val_var rfl) (.inl ⟨by omega, by omega⟩))) ?_)
    refine st_seq (st_set (val_sub (val_var rfl) (val_mul (vy rfl) (val_var rfl) (.inl ⟨by omega, by omega⟩))) ?_)
    generalize hax : ux - x * l = ax at q ⊢
    generalize hay : uy - y * l = ay at q ⊢
    have m3 := mul_le (a := ax) (b := dx) (A := 1100000000000) (B := 1000) (by omega) (by omega) (by omega) (by omega)
    have m4 := mul_le (a := ay) (b := dy) (A := 1100000000000) (B := 1000) (by omega) (by omega) (by omega) (by omega)
    have m5 := mul_le (a := ax) (b := dy) (A := 1100000000000) (B := 1000) (by omega) (by omega) (by omega) (by omega)
    have m6 := mul_le (a := ay) (b := dx) (A := 1100000000000) (B := 1000) (by omega) (by omega) (by omega) (by omega)
    have m7 := mul_le (a := dx) (b := dx) (A := 1000) (B := 1000) (by omega) (by omega) (by omega) (by omega)
    have m8 := mul_le (a := dy) (b := dy) (A := 1000) (B := 1000) (by omega) (by omega) (by omega) (by omega)
    refine st_seq (st_set (val_add (val_mul (val_var rfl) (vdx rfl) (.inr ⟨by omega, by omega⟩)) (val_mul (val_var rfl) (vdy rfl) (.inr ⟨by omega, by omega⟩))) ?_)
    refine st_seq (st_set (val_mul (val_mul val_c (val_var rfl) (.inl ⟨by decide, by decide⟩)) (val_var rfl) (.inr ⟨by omega, by omega⟩)) ?_)
    generalize hal : ax * dx + ay * dy = al at q ⊢
    by_cases c : al ≤ 0
    · rw [if_pos c] at q
      refine st_seq (st_y (ans_leI (val_var rfl) val_c) (decide_eq_true c) ?_)
      have an : Ans (tTest (tOp (rI0 fun i j => .bl (decide (i ≤ j))) (tOp (rI0 fun i j => .int (i + j)) (tOp (rI CMul fun i j => .int (i * j)) (tVar 4) (tVar 4)) (tOp (rI CMul fun i j => .int (i * j)) (tVar 5) (tVar 5))) (tVar 7))) [some (.ref sh), some (.int ux), some (.int uy), some (.int l), some (.int ax), some (.int ay), some (.int al), some (.int (25 * l * l)), none] H (decide (ax * ax + ay * ay ≤ 25 * l * l)) :=
        ans_leI (val_add (val_mul (val_var rfl) (val_var rfl) (.inr ⟨by omega, by omega⟩)) (val_mul (val_var rfl) (val_var rfl) (.inr ⟨by omega, by omega⟩))) (val_var rfl)
      refine an _ ?_
      by_cases e : ax * ax + ay * ay ≤ 25 * l * l
      · rw [if_pos e] at q
        rw [decide_eq_true e]
        exact iteT q
      · rw [if_neg e] at q
        rw [decide_eq_false e]
        exact iteF q
    · rw [if_neg c] at q
      refine st_seq (st_n (ans_leI (val_var rfl) val_c) (decide_eq_false c) ?_)
      refine st_seq (st_set (val_sub (val_mul (val_var rfl) (vdy rfl) (.inr ⟨by omega, by omega⟩)) (val_mul (val_var rfl) (vdx rfl) (.inr ⟨by omega, by omega⟩))) ?_)
      generalize has : ax * dy - ay * dx = as at q ⊢
      have an : Ans (tTest (tOp (rI0 fun i j => .bl (decide (i ≤ j))) (tOp (rI CMul fun i j => .int (i * j)) (tVar 8) (tVar 8)) (tOp (rI CMul fun i j => .int (i * j)) (tVar 7) (tFld K (tVar 0) "squared_step")))) [some (.ref sh), some (.int ux), some (.int uy), some (.int l), some (.int ax), some (.int ay), some (.int al), some (.int (25 * l * l)), some (.int as)] H (decide (as * as ≤ 25 * l * l * (dx * dx + dy * dy))) :=
        ans_leI (val_mul (val_var rfl) (val_var rfl) (.inr ⟨by omega, by omega⟩)) (val_mul (val_var rfl) (vs rfl) (.inr ⟨by omega, by omega⟩))
      refine an _ ?_
      by_cases e : as * as ≤ 25 * l * l * (dx * dx + dy * dy)
      · rw [if_pos e] at q
        rw [decide_eq_true e]
        exact iteT ⟨_, rfl, q⟩
      · rw [if_neg e] at q
        rw [decide_eq_false e]
        exact iteF q
end MN
set_option Elab.async false
set_option maxRecDepth 100000
set_option maxHeartbeats 2000000
set_option linter.unusedVariables false
namespace MN
open PySem PySem.Spec PyProof.Rows L2
open Vbwsah (Input Numbered Known Client State Packet Ring Frac)
variable {P : Program} {w : World} {K : PySem.W.Frag} {mg : Str → Option Value} {base : Heap} {Z : Cs}
/-- how far along a shot meets a body -/
def hitW (own : Nat) (ox oy dx dy : Int) (w1 w2 : Vbwsah.World) (l p : Int) (b : Nat) : Option (Int × Nat) :=
  if b = own then none else match upOf w1 w2 l p (4 * b), upOf w1 w2 l p (4 * b + 1) with
  | some X, some Y => (wayOf ox oy dx dy X Y l).map fun w => (w, b)
  | _, _ => none
theorem hitW_snd {own : Nat} {ox oy dx dy : Int} {w1 w2 : Vbwsah.World} {l p : Int} {b : Nat} {h : Int × Nat} (e : hitW own ox oy dx dy w1 w2 l p b = some h) : h.2 = b := by
  unfold hitW at e
  split at e
  · cases e
  · split at e
    · rename_i X Y _ _
      cases q : wayOf ox oy dx dy X Y l with
      | none => rw [q] at e; cases e
      | some v => rw [q] at e; cases e; rfl
    · cases e
theorem filter_sub {f : Nat → Option (Int × Nat)} (hf : ∀ b h, f b = some h → h.2 = b) : ∀ l : List Nat, ((l.filterMap f).map (·.2)).Sublist l
  | [] => List.Sublist.refl _
  | b :: l => by
    rw [List.filterMap_cons]
    cases e : f b with
    | none => exact (filter_sub hf l).cons b
    | some h =>
      show (h.2 :: (l.filterMap f).map (·.2)).Sublist (b :: l)
      rw [hf b h e]
      exact (filter_sub hf l).cons_cons b
theorem hits_rise (own : Nat) (ox oy dx dy : Int) (w1 w2 : Vbwsah.World) (l p : Int) (n : Nat) : (((List.range n).filterMap (hitW own ox oy dx dy w1 w2 l p)).map (·.2)).Pairwise (· < ·) :=
  List.pairwise_lt_range.sublist (filter_sub (fun b h e => hitW_snd e) _)
/-- x and y of a body are there together -/
theorem up_both {c1 c2 : Nat} {w1 w2 : Vbwsah.World} (g1 : GoodW c1 w1) (g2 : GoodW c2 w2) {b : Nat} (hb : b < 8) {l p X : Int} (e : upOf w1 w2 l p (4 * b) = some X) : ∃ Y, upOf w1 w2 l p (4 * b + 1) = some Y := by
  have a1 := (g1.body b 0 hb (by omega)).trans (g1.body b 1 hb (by omega)).symm
  have a2 := (g2.body b 0 hb (by omega)).trans (g2.body b 1 hb (by omega)).symm
  rw [Nat.add_zero] at a1 a2
  unfold upOf at e ⊢
  cases e1 : Vbwsae.get w1 (4 * b) <;> cases e2 : Vbwsae.get w2 (4 * b) <;> cases e3 : Vbwsae.get w1 (4 * b + 1) <;> cases e4 : Vbwsae.get w2 (4 * b + 1) <;> rw [e1, e3] at a1 <;> rw [e2, e4] at a2 <;> rw [e1, e2] at e <;> first | exact ⟨_, rfl⟩ | (simp at a1; done) | (simp at a2; done) | (simp at e; done)
theorem up_bound {c1 c2 : Nat} {w1 w2 : Vbwsah.World} (g1 : GoodW c1 w1) (g2 : GoodW c2 w2) {k : Nat} (hk : k < 32) (hk2 : k % 4 < 2) {l p X : Int} (l0 : -20000000 ≤ l) (l1 : l ≤ 20000000) (p0 : -20000000 ≤ p) (p1 : p ≤ 20000000) (e : upOf w1 w2 l p k = some X) : -1000000000000 ≤ X ∧ X ≤ 1000000000000 := by
  have b1 : ∀ v, Vbwsae.get w1 k = some v → 0 ≤ v ∧ v ≤ 1000 := fun v h => (g1.val k v h).1 hk hk2
  have b2 : ∀ v, Vbwsae.get w2 k = some v → 0 ≤ v ∧ v ≤ 1000 := fun v h => (g2.val k v h).1 hk hk2
  have go : ∀ a b : Int, 0 ≤ a → a ≤ 1000 → 0 ≤ b → b ≤ 1000 → -1000000000000 ≤ a * l + (b - a) * p ∧ a * l + (b - a) * p ≤ 1000000000000 := fun a b a0 a1 b0 b1 => by
    have m1 := mul_le (a := a) (b := l) (A := 1000) (B := 20000000) (by omega) (by omega) (by omega) (by omega)
    have m2 := mul_le (a := b - a) (b := p) (A := 1000) (B := 20000000) (by omega) (by omega) (by omega) (by omega)
    omega
  unfold upOf at e
  cases e1 : Vbwsae.get w1 k <;> cases e2 : Vbwsae.get w2 k <;> rw [e1, e2] at e
  · cases e
  · cases e
    have := b2 _ e2
    exact go _ _ this.1 this.2 this.1 this.2
  · cases e
    have := b1 _ e1
    exact go _ _ this.1 this.2 this.1 this.2
  · cases e
    have h1 := b1 _ e1
    have h2 := b2 _ e2
    exact go _ _ h1.1 h1.2 h2.1 h2.2
def TupAt (H : Hp) (r : Addr) (h : Int × Nat) : Prop := H r = some (.tup [.int h.1, .int (h.2 : Int)])
structure MeetB (x y dx dy l p : Int) : Prop where
  x0 : 0 ≤ x
  x1 : x ≤ 1000
  y0 : 0 ≤ y
  y1 : y ≤ 1000
  dx0 : -1000 ≤ dx
  dx1 : dx ≤ 1000
  dy0 : -1000 ≤ dy
  dy1 : dy ≤ 1000
  l0 : 0 ≤ l
  l1 : l ≤ 20000000
  p0 : -20000000 ≤ p
  p1 : p ≤ 20000000
def spMeets (Z : Cs) : Sp := fun vs H Q _ => ∃ (sh dd bt db b a : Addr) (x y dx dy l p : Int) (own c1 c2 : Nat) (w1 w2 : Vbwsah.World), vs = [.ref sh, .ref bt, .int (own : Int)] ∧ H sh = some (oShot Z dd x y dx dy (dx * dx + dy * dy)) ∧ H bt = some (oBetween Z db b a l p) ∧ WAt H b w1 ∧ WAt H a w2 ∧ GoodW c1 w1 ∧ GoodW c2 w2 ∧ MeetB x y dx dy l p ∧
  ∀ H' pm (rs : List Addr) (M : List (Int × Nat)), Same H H' → H pm = none → M.Pairwise lexLt → M.Perm ((List.range 8).filterMap (hitW own x y dx dy w1 w2 l p)) → Paired (TupAt H') rs M → H' pm = some (.lst (rs.map V.ref)) → Q (.ref pm) H'
/-- what a tuple of two numbers at an address says -/
def kAt (H : Hp) : V → Int × Int
  | .ref t => match H t with
    | some (.tup [.int i, .int j]) => (i, j)
    | _ => (0, 0)
  | _ => (0, 0)
def adr : V → Addr
  | .ref t => t
  | _ => 0
theorem kAt_is {H : Hp} {r : Addr} {h : Int × Nat} (e : TupAt H r h) : kAt H (.ref r) = (h.1, (h.2 : Int)) := by
  show (match H r with | some (.tup [.int i, .int j]) => (i, j) | _ => (0, 0)) = _
  rw [show H r = some (.tup [.int h.1, .int (h.2 : Int)]) from e]
/-- sorted: the same in lists of pairs -/
theorem sorted_pairs {H : Hp} {rs : List Addr} {L : List (Int × Nat)} (pr : Paired (TupAt H) rs L) (hL : (L.map (·.2)).Pairwise (· < ·)) {ys : List V} (hp : ys.Perm (rs.map V.ref)) (hs : SrtO.Srtd (ltP (kAt H)) ys) :
    ∃ (rs' : List Addr) (M : List (Int × Nat)), ys = rs'.map V.ref ∧ M.Pairwise lexLt ∧ M.Perm L ∧ Paired (TupAt H) rs' M := by
  have eL : (rs.map V.ref).map (fun v => ((kAt H v).1, (kAt H v).2.toNat)) = L := by
    clear hp hL
    induction pr with
    | nil => rfl
    | @cons r h rs L e t ih =>
      rw [List.map_cons, List.map_cons, ih, kAt_is e]
      show (h.1, ((h.2 : Int)).toNat) :: L = h :: L
      rw [Int.toNat_natCast]
  have hall : ∀ v ∈ ys, ∃ r h, v = V.ref r ∧ TupAt H r h := fun v hv => by
    obtain ⟨r, hr, e⟩ := List.mem_map.mp (hp.mem_iff.mp hv)
    obtain ⟨h, _, z⟩ := Paired.memL pr hr
    exact ⟨r, h, e.symm, z⟩
  refine ⟨ys.map adr, ys.map (fun v => ((kAt H v).1, (kAt H v).2.toNat)), ?_, ?_, ?_, ?_⟩
  · rw [List.map_map]
    conv => lhs; rw [← List.map_id ys]
    refine List.map_congr_left fun v hv => ?_
    obtain ⟨r, h, e, _⟩ := hall v hv
    rw [e]; rfl
  · have hperm : (ys.map (fun v => ((kAt H v).1, (kAt H v).2.toNat))).Perm L := by rw [← eL]; exact hp.map _
    have nd : ((ys.map (fun v => ((kAt H v).1, (kAt H v).2.toNat))).map (·.2)).Nodup := (hperm.map (fun h : Int × Nat => h.2)).nodup_iff.mpr (hL.imp fun {x y} (h : x < y) => by omega)
    rw [List.map_map] at nd
    rw [List.pairwise_map]
    have nd2 := List.pairwise_map.mp nd
    refine List.Pairwise.imp_of_mem (fun {u v} hu hv h => ?_) (List.pairwise_and_iff.mpr ⟨hs, nd2⟩)
    obtain ⟨h1, h2⟩ := h
    obtain ⟨r, a, rfl, ea⟩ := hall u hu
    obtain ⟨r', b, rfl, eb⟩ := hall v hv
    have h1 : SrtO.lexB (kAt H (.ref r')) (kAt H (.ref r)) = false := h1
    have h2 : (kAt H (.ref r)).2.toNat ≠ (kAt H (.ref r')).2.toNat := h2
    rw [kAt_is ea, kAt_is eb] at h1 h2
    show lexLt ((kAt H (.ref r)).1, (kAt H (.ref r)).2.toNat) ((kAt H (.ref r')).1, (kAt H (.ref r')).2.toNat)
    rw [kAt_is ea, kAt_is eb]
    show lexLt (a.1, ((a.2 : Int)).toNat) (b.1, ((b.2 : Int)).toNat)
    have h3 : ¬ (b.1 < a.1 ∨ (b.1 = a.1 ∧ (b.2 : Int) < (a.2 : Int))) := fun z => by
      have := (SrtO.lexB_iff (p := (b.1, (b.2 : Int))) (q := (a.1, (a.2 : Int)))).mpr z
      rw [this] at h1; cases h1
    have h2 : ((a.2 : Int)).toNat ≠ ((b.2 : Int)).toNat := h2
    unfold lexLt
    show a.1 < b.1 ∨ (a.1 = b.1 ∧ ((a.2 : Int)).toNat < ((b.2 : Int)).toNat)
    omega
  · rw [← eL]; exact hp.map _
  · have go : ∀ ys : List V, (∀ v ∈ ys, ∃ r h, v = V.ref r ∧ TupAt H r h) → Paired (TupAt H) (ys.map adr) (ys.map (fun v => ((kAt H v).1, (kAt H v).2.toNat))) := by
      intro ys
      induction ys with
      | nil => intro _; exact .nil
      | cons v ys ih =>
        intro h
        obtain ⟨r, a, e, ea⟩ := h v List.mem_cons_self
        refine .cons ?_ (ih fun u hu => h u (List.mem_cons_of_mem _ hu))
        subst e
        show TupAt H r ((kAt H (.ref r)).1, (kAt H (.ref r)).2.toNat)
        rw [kAt_is ea]
        show H r = some (.tup [.int a.1, .int ((((a.2 : Int)).toNat : Nat) : Int)])
        rw [Int.toNat_natCast]; exact ea
    exact go ys hall
end MN
set_option Elab.async false
set_option maxRecDepth 100000
set_option maxHeartbeats 2000000
set_option linter.unusedVariables false
namespace MN
open PySem PySem.Spec PyProof.Rows L2
open Vbwsah (Input Numbered Known Client State Packet Ring Frac)
variable {P : Program} {w : World} {K : PySem.W.Frag} {mg : Str → Option Value} {base : Heap} {Z : Cs}
theorem ok_Shot_meets (T : Txt K mg Z) : MethOk P w K mg base Z.Shot 2 "meets" ["self", "between", "own"] (spMeets Z) := by
  refine T.f_Shot_meets.ok sc_Shot_meets (fun vs H Q E h => ?_) (fun f cdv A outer s H vs Q E hr h => ⟨_, (pss_cons (ps_set (i := 3) sc_Shot_meets.nd rfl (Or.inl rfl) (pe_lst pa_nil))
      (pss_cons (ps_for PassesOwn.never rfl (pi_range1 rfl T.n_range (pa_cons (pe_gc T.c_BODIES) pa_nil)) (pg_name (i := 4) sc_Shot_meets.nd rfl (Or.inl rfl)) (pss_cons (ps_set (i := 5) sc_Shot_meets.nd rfl (Or.inl rfl) (pe_m (ok_Between_upper_number T) T.cl_Between hr (pv 1) (pa_cons (pe_op op_mul (pe_gc T.c_KEYS_OF_A_BODY) (pv 4)) pa_nil)))
      (pss_cons (ps_if (PW.pt (pw_or (pt_cmpR op_eq (pv 4) (pv 2) (nomark _)) (pw_or1 (pt_cmpR op_isN (pv 5) pe_non (nomark _))))) (pss_one ps_continue) pss_nil)
      (pss_cons (ps_set (i := 6) sc_Shot_meets.nd rfl (Or.inl rfl) (pe_m (ok_Between_upper_number T) T.cl_Between hr (pv 1) (pa_cons (pe_op op_add (pe_op op_mul (pe_gc T.c_KEYS_OF_A_BODY) (pv 4)) pe_int) pa_nil)))
      (pss_cons (ps_set (i := 7) sc_Shot_meets.nd rfl (Or.inl rfl) (pe_m (ok_Shot_way_to T) T.cl_Shot hr (pv 0) (pa_cons (pv 5) (pa_cons (pv 6) (pa_cons (pe_fld (pv 1) rfl) pa_nil)))))
      (pss_one (ps_if (pt_cmpR op_notN (pv 7) pe_non (nomark _)) (pss_one (ps_expr (pe_bm PySem.F.plainAttrs_list PySem.F.slot_list_append PySem.F.type_list_append mt_append (pv 3) (pa_cons (pe_tup (pa_cons (pv 7) (pa_cons (pv 4) pa_nil))) pa_nil)))) pss_nil)))))))
      (pss_one (ps_ret (pe_callB cr_sortedPO (by rfl) T.n_sorted (by decide +kernel) (pa_cons (pv 3) pa_nil)))))), ?_⟩)
  · obtain ⟨sh, dd, bt, db, b, a, x, y, dx, dy, l, p, own, c1, c2, w1, w2, rfl, _⟩ := h; rfl
  · obtain ⟨sh, dd, bt, db, b, a, x, y, dx, dy, l, p, own, c1, c2, w1, w2, rfl, hs, hb, wb, wa, g1, g2, B, q⟩ := h
    refine ⟨by decide, fun F hF => ?_⟩
    have s0 : Same H (upd H F (.lst [])) := Same.new hF
    generalize hf : hitW own x y dx dy w1 w2 l p = f at q
    refine ⟨8, rfl, by decide, by decide, for_range (lo := 0) (n := 8) (fun j σ H' => ∃ (v4 v5 v6 v7 : Option V) (rs : List Addr), σ = [some (.ref sh), some (.ref bt), some (.int (own : Int)), some (.ref F), v4, v5, v6, v7] ∧ Same H H' ∧ H' F = some (.lst (rs.map V.ref)) ∧ Paired (TupAt H') rs ((List.range j).filterMap f)) ⟨none, none, none, none, [], rfl, s0, upd_same, .nil⟩ ?_ ?_⟩
    · rintro j σ H' hj ⟨v4, v5, v6, v7, rs, rfl, sm, hF', pr⟩
      have ej : (0 : Int) + (j : Int) = (j : Int) := Int.zero_add _
      have hrl : rs.length ≤ 8 := by
        rw [Paired.len pr]
        refine Nat.le_trans (List.length_filterMap_le _ _) ?_
        rw [List.length_range]; omega
      have hs' := sm _ _ hs
      have hb' := sm _ _ hb
      have wb' : WAt H' b w1 := wb.keep fun o e => sm _ _ e
      have wa' : WAt H' a w2 := wa.keep fun o e => sm _ _ e
      have hr : (List.range (j + 1)).filterMap f = (List.range j).filterMap f ++ [j].filterMap f := by rw [List.range_succ, List.filterMap_append]
      show _
      refine ⟨_, rfl, bt, db, _, rfl, hb', nm_Between_upper_number, _, rfl, _, _, rfl, rfl, .inl ⟨by decide, by decide⟩, bt, db, b, a, l, p, 4 * j, w1, w2, ?_, hb', wb', wa', by have := B.l0; omega, by have := B.l1; omega, by have := B.p0; omega, by have := B.p1; omega, ?_⟩
      · show [V.ref bt, V.int (4 * (0 + (j : Int)))] = _
        rw [ej, Int.natCast_mul]; rfl
      have an : Ans (tOr (tTest (tOp rEq (tVar 4) (tVar 2))) (tTest (tOp (fun x y H Q => y = .non ∧ Q (.bl (decide (x = .non))) H) (tVar 5) (tC .non)))) [some (.ref sh), some (.ref bt), some (.int (own : Int)), some (.ref F), some (.int (0 + (j : Int))), some (optV (upOf w1 w2 l p (4 * j))), v6, v7] H' (decide (j = own) || decide (optV (upOf w1 w2 l p (4 * j)) = .non)) := by
        refine ans_orB (ans_eq (val_var rfl) (val_var rfl) rfl (decide_eq_decide.mpr ⟨fun z => ?_, fun z => ?_⟩)) (ans_cmp (val_var rfl) val_c fun Q q => ⟨rfl, q⟩)
        · have := V.int.inj z; omega
        · rw [z, Int.zero_add]
      by_cases c : j = own
      · refine st_seq (st_y an (by rw [decide_eq_true c]; rfl) ?_)
        refine ⟨_, _, _, _, rs, rfl, sm, hF', ?_⟩
        rw [hr]
        have e : f j = none := by rw [← hf]; unfold hitW; rw [if_pos c]
        rw [List.filterMap_cons, e, List.filterMap_nil, List.append_nil]; exact pr
      cases eX : upOf w1 w2 l p (4 * j) with
      | none =>
        rw [eX] at an
        refine st_seq (st_y an (by rw [decide_eq_true (show optV none = V.non from rfl), Bool.or_true]) ?_)
        refine ⟨_, _, _, _, rs, rfl, sm, hF', ?_⟩
        rw [hr]
        have e : f j = none := by
          rw [← hf]; unfold hitW
          rw [if_neg c, eX]
        rw [List.filterMap_cons, e, List.filterMap_nil, List.append_nil]; exact pr
      | some X =>
        rw [eX] at an
        refine st_seq (st_n an (by rw [decide_eq_false c, decide_eq_false (show ¬ optV (some X) = V.non from fun z => nomatch z)]; rfl) ?_)
        obtain ⟨Y, eY⟩ := up_both g1 g2 (by omega) eX
        have bX := up_bound g1 g2 (k := 4 * j) (by omega) (by omega) (by have := B.l0; omega) B.l1 B.p0 B.p1 eX
        have bY := up_bound g1 g2 (k := 4 * j + 1) (by omega) (by omega) (by have := B.l0; omega) B.l1 B.p0 B.p1 eY
        refine ⟨_, rfl, bt, db, _, rfl, hb', nm_Between_upper_number, _, rfl, _, _, rfl, rfl, .inl ⟨by decide, by decide⟩, _, _, rfl, rfl, bt, db, b, a, l, p, 4 * j + 1, w1, w2, ?_, hb', wb', wa', by have := B.l0; omega, by have := B.l1; omega, by have := B.p0; omega, by have := B.p1; omega, ?_⟩
        · show [V.ref bt, V.int (4 * (0 + (j : Int)) + 1)] = _
          rw [ej, Int.natCast_add, Int.natCast_mul]; rfl
        rw [eY]
        refine ⟨_, rfl, sh, dd, _, rfl, hs', nm_Shot_way_to, _, rfl, _, rfl, _, rfl, bt, Z.Between, db, _, _, rfl, hb', T.cl_Between, T.na_Between_lower_number, lk_Between_lower_number, sh, dd, x, y, dx, dy, X, Y, l, rfl, hs', ⟨B.x0, B.x1, B.y0, B.y1, B.dx0, B.dx1, B.dy0, B.dy1, bX.1, bX.2, bY.1, bY.2, B.l0, by have := B.l1; omega⟩, ?_⟩
        have ef : f j = (wayOf x y dx dy X Y l).map fun w => (w, j) := by
          rw [← hf]; unfold hitW
          rw [if_neg c, eX, eY]
        refine ⟨_, rfl, rfl, _, rfl, ?_⟩
        cases ew : wayOf x y dx dy X Y l with
        | none =>
          refine iteF ⟨_, _, _, _, rs, rfl, sm, hF', ?_⟩
          rw [hr, List.filterMap_cons, ef, ew]
          show Paired (TupAt H') rs (_ ++ [])
          rw [List.append_nil]; exact pr
        | some v =>
          rw [decide_eq_false (show ¬ optV (some v) = V.non from fun z => nomatch z)]
          refine iteT ⟨_, rfl, .inl ⟨rfl, _, SqL.of hF'⟩, _, rfl, _, rfl, (by show 2 ≤ sizeLine; decide), fun t ht => ⟨F, rs.map V.ref, _, rfl, rfl, ?_, sizeL (by rw [List.length_map]; omega), ?_⟩⟩
          · rw [upd_ne (ne_of_none hF' ht)]; exact hF'
          have htF : t ≠ F := ne_of_none' hF' ht
          refine ⟨_, _, _, _, rs ++ [t], rfl, MN.Same.mut (sm.trans (Same.new ht)) hF, ?_, ?_⟩
          · rw [upd_same, List.map_append]; rfl
          · rw [hr, List.filterMap_cons, ef, ew]
            show Paired _ _ (_ ++ [(v, j)])
            refine Paired.snoc (Paired.mapP pr fun r d z => ?_) ?_
            · have z' : H' r = some (.tup _) := z
              have hrF : r ≠ F := fun y => by rw [y, hF'] at z'; cases z'
              show upd _ F _ r = _
              rw [upd_ne hrF, upd_ne (ne_of_none z' ht)]
              exact z
            · show upd _ F _ t = _
              rw [upd_ne htF, upd_same, ej]; rfl
    · rintro σ H' ⟨v4, v5, v6, v7, rs, rfl, sm, hF', pr⟩
      have hL : (((List.range 8).filterMap f).map (·.2)).Pairwise (· < ·) := by rw [← hf]; exact hits_rise own x y dx dy w1 w2 l p 8
      refine ⟨_, rfl, F, rs.map V.ref, kAt H', rfl, SqL.of hF', fun v hv => ?_, fun ys pm hsr hst hpm => ?_⟩
      · obtain ⟨r, hr, e⟩ := List.mem_map.mp hv
        obtain ⟨h, _, z⟩ := Paired.memL pr hr
        refine ⟨r, e.symm, ?_⟩
        rw [← e, kAt_is z]; exact z
      · obtain ⟨rs', M, ey, hM, hMp, pM⟩ := sorted_pairs pr hL hst.perm hsr
        refine q _ pm rs' M (sm.trans (Same.new hpm)) (sm.free hpm) hM hMp (Paired.mapP pM fun r h z => ?_) ?_
        · have z' : H' r = some (.tup _) := z
          show upd _ pm _ r = _
          rw [upd_ne (ne_of_none z' hpm)]; exact z
        · rw [upd_same, ey]
end MN
set_option Elab.async false
set_option maxRecDepth 100000
set_option maxHeartbeats 2000000
set_option linter.unusedVariables false
namespace MN
open PySem PySem.Spec PyProof.Rows L2
open Vbwsah (Input Numbered Known Client State Packet Ring Frac)
variable {P : Program} {w : World} {K : PySem.W.Frag} {mg : Str → Option Value} {base : Heap} {Z : Cs}
section
variable {σ : L2.St} {H : Hp} {ta tb tc td : TE}
theorem val_andL {a b : Bool} (h1 : Val ta σ H (.bl a)) (h2 : a = true → Val tb σ H (.bl b)) : Val (tAndV ta tb) σ H (.bl (a && b)) := fun Q q => h1 _ ⟨a, rfl, by
  cases a with
  | true => exact iteT (h2 rfl Q q)
  | false => exact iteF q⟩
theorem val_chain3 {a b c d : Int} (h1 : Val ta σ H (.int a)) (h2 : Val tb σ H (.int b)) (h3 : Val tc σ H (.int c)) (h4 : Val td σ H (.int d)) :
    Val (tChain3 (rI0 fun i j => .bl (decide (i ≤ j))) (rI0 fun i j => .bl (decide (i < j))) (rI0 fun i j => .bl (decide (i ≤ j))) ta tb tc td) σ H (.bl (decide (a ≤ b) && (decide (b < c) && decide (c ≤ d)))) := fun Q q => h1 _ (h2 _ ⟨a, b, rfl, rfl, _, rfl, by
  by_cases e : a ≤ b
  · rw [decide_eq_true e] at q ⊢
    refine iteT (h3 _ ⟨b, c, rfl, rfl, _, rfl, ?_⟩)
    by_cases e2 : b < c
    · rw [decide_eq_true e2] at q ⊢
      exact iteT (h4 _ ⟨c, d, rfl, rfl, q⟩)
    · rw [decide_eq_false e2] at q ⊢
      exact iteF q
  · rw [decide_eq_false e] at q ⊢
    exact iteF q⟩)
end
def around (t1 t2 n d : Int) : Bool := (decide (1 ≤ t1) && (decide (t1 < t2) && decide (t2 ≤ 10000))) && inR (t1 * d) ((t2 + 3) * d) n
def spAround : Sp := fun vs H Q _ => ∃ t1 t2 n d : Int, vs = [.int t1, .int t2, .int n, .int d] ∧ Q (.bl (around t1 t2 n d)) H
theorem ok_are_ticks_around (T : Txt K mg Z) : DefOk P w K mg base 1 "are_ticks_around" ["t1", "t2", "n", "d"] spAround := by
  refine T.f_are_ticks_around.ok sc_are_ticks_around (fun vs H Q E h => ?_) (fun f cdv A outer s H vs Q E hr h => ⟨_, (pss_one (ps_ret (pe_and (pe_chain3 op_le op_lt op_le pe_int (pv 0) (pv 1) (pe_gc T.c_GREATEST_TICK)) (pe_one (pe_chain op_le op_le (pe_op op_mul (pv 0) (pv 3)) (pv 2) (pe_op op_mul (pe_op op_add (pv 1) (pe_gc T.c_MOST_TICKS_BEYOND)) (pv 3))))))), ?_⟩)
  · obtain ⟨t1, t2, n, d, rfl, _⟩ := h; rfl
  · obtain ⟨t1, t2, n, d, rfl, q⟩ := h
    refine st_ret (val_andL (val_chain3 val_c (val_var rfl) (val_var rfl) val_c) fun e => ?_) q
    simp only [Bool.and_eq_true, decide_eq_true_eq] at e
    exact ans_chainLe (val_mul (val_var rfl) (val_var rfl) (.inl ⟨by omega, by omega⟩)) (val_var rfl) (val_mul (val_add (val_var rfl) val_c) (val_var rfl) (.inl ⟨by omega, by omega⟩))
/-- a world by its tick -/
theorem ring_find {L : Lb} {H : Hp} {l : List (Int × Addr)} {r : Ring} (h : RingR L H l r) (hd : (r.map (·.1)).Pairwise (· > ·)) (t : Nat) :
    ((r.find? fun y => y.1 == t) = none ∧ valV (encR l) (ik (t : Int)) = none) ∨ ∃ v a, (r.find? fun y => y.1 == t) = some (t, v) ∧ (t, v) ∈ r ∧ valV (encR l) (ik (t : Int)) = some (.ref a) ∧ WAt H a v := by
  cases e : r.find? fun y => y.1 == t with
  | none =>
    left
    refine ⟨rfl, encR_none (h.no fun q hq z => ?_)⟩
    have := List.find?_eq_none.mp e q hq
    simp [z] at this
  | some y =>
    right
    have hm := List.mem_of_find?_eq_some e
    have e1 : y.1 = t := by simpa using List.find?_some e
    obtain ⟨ty, v⟩ := y
    have e1 : ty = t := e1
    subst e1
    obtain ⟨a, _, _, wt, hv⟩ := h.get hd hm
    exact ⟨v, a, rfl, hm, hv, wt⟩
/-- the bodies that a shot meets, as the specification has them -/
theorem hits_is {own t1 t2 : Nat} {ox oy dx dy n d : Int} {w1 w2 : Vbwsah.World} (hd : 0 < d) (ht : t1 < t2) (hS : 0 < dx * dx + dy * dy) :
    Vbwsah.hitsAt own ox oy dx dy t1 w1 t2 w2 (Frac.made n d) = ((List.range 8).filterMap (hitW own ox oy dx dy w1 w2 (((t2 : Int) - t1) * d) (n - (t1 : Int) * d))).map (phi ((((t2 : Int) - t1) * d) * (dx * dx + dy * dy))) := by
  have hl : 0 < ((t2 : Int) - t1) * d := Int.mul_pos (by omega) hd
  rw [List.map_filterMap]
  unfold Vbwsah.hitsAt Vbwsah.BODIES
  refine congrArg (fun f => (List.range 8).filterMap f) (funext fun b => ?_)
  unfold hitW
  by_cases c : b = own
  · rw [if_pos c, if_pos c]; rfl
  · rw [if_neg c, if_neg c]
    show (match Vbwsah.between t1 w1 t2 w2 (Frac.made n d) (4 * b), Vbwsah.between t1 w1 t2 w2 (Frac.made n d) (4 * b + 1) with | some x, some y => _ | _, _ => none) = _
    rw [between_up hd ht, between_up hd ht]
    cases upOf w1 w2 (((t2 : Int) - t1) * d) (n - (t1 : Int) * d) (4 * b) with
    | none => rfl
    | some X =>
      cases upOf w1 w2 (((t2 : Int) - t1) * d) (n - (t1 : Int) * d) (4 * b + 1) with
      | none => rfl
      | some Y =>
        have e := way_is (ox := ox) (oy := oy) (dx := dx) (dy := dy) (X := X) (Y := Y) hl hS
        show (if (Vbwsah.nearestTo ox oy dx dy (Frac.made X (((t2 : Int) - t1) * d)) (Frac.made Y (((t2 : Int) - t1) * d))).2.le (Frac.of Vbwsah.RADIUS2) = true then some (b, (Vbwsah.nearestTo ox oy dx dy (Frac.made X (((t2 : Int) - t1) * d)) (Frac.made Y (((t2 : Int) - t1) * d))).1) else none) = ((wayOf ox oy dx dy X Y (((t2 : Int) - t1) * d)).map fun w => (w, b)).map _
        cases ew : wayOf ox oy dx dy X Y (((t2 : Int) - t1) * d) with
        | none =>
          rw [ew] at e
          by_cases z : (Vbwsah.nearestTo ox oy dx dy (Frac.made X (((t2 : Int) - t1) * d)) (Frac.made Y (((t2 : Int) - t1) * d))).2.le (Frac.of Vbwsah.RADIUS2) = true
          · rw [if_pos z] at e; cases e
          · rw [if_neg z]; rfl
        | some v =>
          rw [ew] at e
          by_cases z : (Vbwsah.nearestTo ox oy dx dy (Frac.made X (((t2 : Int) - t1) * d)) (Frac.made Y (((t2 : Int) - t1) * d))).2.le (Frac.of Vbwsah.RADIUS2) = true
          · rw [if_pos z] at e
            rw [if_pos z, Option.some.inj e]; rfl
          · rw [if_neg z] at e; cases e
theorem sorted_is {own t1 t2 : Nat} {ox oy dx dy n d : Int} {w1 w2 : Vbwsah.World} (hd : 0 < d) (ht : t1 < t2) (hS : 0 < dx * dx + dy * dy) {M : List (Int × Nat)} (hM : M.Pairwise lexLt)
    (hp : M.Perm ((List.range 8).filterMap (hitW own ox oy dx dy w1 w2 (((t2 : Int) - t1) * d) (n - (t1 : Int) * d)))) :
    Vbwsah.sortedHits (Vbwsah.hitsAt own ox oy dx dy t1 w1 t2 w2 (Frac.made n d)) = M.map (phi ((((t2 : Int) - t1) * d) * (dx * dx + dy * dy))) := by
  have hl : 0 < ((t2 : Int) - t1) * d := Int.mul_pos (by omega) hd
  rw [hits_is hd ht hS, sorted_phi (Int.mul_pos hl hS)]
  have hr := hits_rise own ox oy dx dy w1 w2 (((t2 : Int) - t1) * d) (n - (t1 : Int) * d) 8
  obtain ⟨a, b⟩ := foldW (s := []) List.Pairwise.nil hr fun g hg => absurd hg (by simp)
  rw [List.nil_append] at b
  rw [lex_uniq a hM (b.trans hp.symm)]
theorem sq_pos {dx dy : Int} (h : ¬ (dx = 0 ∧ dy = 0)) : 0 < dx * dx + dy * dy := by
  have s : ∀ z : Int, 0 ≤ z * z := fun z => by
    rcases Int.le_total 0 z with h | h
    · exact Int.mul_nonneg h h
    · exact Int.mul_nonneg_of_nonpos_of_nonpos h h
  have s1 : ∀ z : Int, z ≠ 0 → 0 < z * z := fun z hz => by
    rcases Int.lt_or_gt_of_ne hz with h | h
    · exact Int.mul_pos_of_neg_of_neg h h
    · exact Int.mul_pos h h
  have a := s dx
  have b := s dy
  by_cases c : dx = 0
  · have := s1 dy fun z => h ⟨c, z⟩
    omega
  · have := s1 dx c
    omega
def okShot (dx dy t1 t2 n d : Int) : Bool := ((inR (-1000) 1000 dx && inR (-1000) 1000 dy) && !(decide (dx = 0) && decide (dy = 0))) && ((inR 0 1000000 n && inR 1 1000 d) && around t1 t2 n d)
structure ShotB (dx dy t1 t2 n d : Int) : Prop where
  dx0 : -1000 ≤ dx
  dx1 : dx ≤ 1000
  dy0 : -1000 ≤ dy
  dy1 : dy ≤ 1000
  nz : ¬ (dx = 0 ∧ dy = 0)
  n0 : 0 ≤ n
  n1 : n ≤ 1000000
  d0 : 1 ≤ d
  d1 : d ≤ 1000
  u1 : 1 ≤ t1
  u12 : t1 < t2
  u2 : t2 ≤ 10000
  a : t1 * d ≤ n
  b : n ≤ (t2 + 3) * d
theorem okShot_iff {dx dy t1 t2 n d : Int} : okShot dx dy t1 t2 n d = true ↔ ShotB dx dy t1 t2 n d := by
  unfold okShot around inR
  simp only [Bool.and_eq_true, decide_eq_true_eq, Bool.not_eq_true', Bool.and_eq_false_iff, decide_eq_false_iff_not]
  constructor
  · rintro ⟨⟨⟨⟨a1, a2⟩, a3, a4⟩, a5⟩, ⟨⟨a6, a7⟩, a8, a9⟩, ⟨a10, a11, a12⟩, a13, a14⟩
    exact ⟨a1, a2, a3, a4, fun z => by rcases a5 with h | h; exact h z.1; exact h z.2, a6, a7, a8, a9, a10, a11, a12, a13, a14⟩
  · rintro ⟨a1, a2, a3, a4, a5, a6, a7, a8, a9, a10, a11, a12, a13, a14⟩
    refine ⟨⟨⟨⟨a1, a2⟩, a3, a4⟩, ?_⟩, ⟨⟨a6, a7⟩, a8, a9⟩, ⟨a10, a11, a12⟩, a13, a14⟩
    by_cases z : dx = 0
    · exact .inr fun y => a5 ⟨z, y⟩
    · exact .inl z
theorem shot_step {s : State} {k : Nat} {x : Client} {x' : Known} (on : ∀ f, Vbwsah.onClient s (k : Int) f = f x x') (dx dy t1 t2 n d : Int) :
    Vbwsah.step s (.shot (k : Int) dx dy t1 t2 n d) = if okShot dx dy t1 t2 n d = true then (match (s.past.find? fun y => y.1 == t1.toNat), (s.past.find? fun y => y.1 == t2.toNat) with
      | some a, some b => (s, 0 :: ((Vbwsah.sortedHits (Vbwsah.hitsAt x.body (Vbwsah.at_ s.world (Vbwsah.keyOf x.body 0)) (Vbwsah.at_ s.world (Vbwsah.keyOf x.body 1)) dx dy a.1 a.2 b.1 b.2 (Frac.made n d))).length : Int) :: (Vbwsah.sortedHits (Vbwsah.hitsAt x.body (Vbwsah.at_ s.world (Vbwsah.keyOf x.body 0)) (Vbwsah.at_ s.world (Vbwsah.keyOf x.body 1)) dx dy a.1 a.2 b.1 b.2 (Frac.made n d))).flatMap fun h => (h.1 : Int) :: Vbwsah.fracRow h.2)
      | _, _ => (s, [-8])) else (s, [-2]) := by
  rw [Vbwsah.step, on]
  have tk : (Vbwsah.TICKS : Int) = 10000 := rfl
  have bg : Vbwsah.BIG = 1000000 := rfl
  have ah : Vbwsah.AHEAD = 3 := rfl
  rw [tk, bg, ah]
  by_cases c : ShotB dx dy t1 t2 n d
  · rw [if_pos (okShot_iff.mpr c)]
    obtain ⟨a1, a2, a3, a4, a5, a6, a7, a8, a9, a10, a11, a12, a13, a14⟩ := c
    rw [if_neg, if_neg]
    · cases (s.past.find? fun y => y.1 == t1.toNat) <;> cases (s.past.find? fun y => y.1 == t2.toNat) <;> rfl
    · rw [of_le_made (by omega), made_le_of (by omega), decide_eq_true a13, decide_eq_true a14]; decide
    · simp only [inside_not]
      intro z
      rcases z with z | z | z | z | z | z | z
      · exact z ⟨a1, a2⟩
      · exact z ⟨a3, a4⟩
      · exact a5 z
      · exact z ⟨a10, by omega⟩
      · exact z ⟨by omega, a12⟩
      · exact z ⟨a6, a7⟩
      · exact z ⟨a8, a9⟩
  · rw [if_neg (fun z => c (okShot_iff.mp z))]
    by_cases c1 : Vbwsah.inside dx (-1000) 1000 = false ∨ Vbwsah.inside dy (-1000) 1000 = false ∨ (dx = 0 ∧ dy = 0) ∨ Vbwsah.inside t1 1 10000 = false ∨ Vbwsah.inside t2 (t1 + 1) 10000 = false ∨ Vbwsah.inside n 0 1000000 = false ∨ Vbwsah.inside d 1 1000 = false
    · rw [if_pos c1]; rfl
    · rw [if_neg c1, if_pos]
      · rfl
      · simp only [inside_not, not_or, Decidable.not_not] at c1
        obtain ⟨b1, b2, b3, b4, b5, b6, b7⟩ := c1
        rw [of_le_made (by omega), made_le_of (by omega), Bool.and_eq_false_iff, decide_eq_false_iff_not, decide_eq_false_iff_not]
        by_cases y1 : t1 * d ≤ n
        · by_cases y2 : n ≤ (t2 + 3) * d
          · exact absurd ⟨b1.1, b1.2, b2.1, b2.2, b3, b6.1, b6.2, b7.1, b7.2, b4.1, by omega, b5.2, y1, y2⟩ c
          · exact .inr y2
        · exact .inl y1
end MN
set_option Elab.async false
set_option maxRecDepth 100000
set_option maxHeartbeats 2000000
set_option linter.unusedVariables false
namespace MN
open PySem PySem.Spec PyProof.Rows L2
open Vbwsah (Input Numbered Known Client State Packet Ring Frac)
variable {P : Program} {w : World} {K : PySem.W.Frag} {mg : Str → Option Value} {base : Heap} {Z : Cs}
def metRow (m : Int) (h : Int × Nat) : List Int := (h.2 : Int) :: Vbwsah.fracRow (Frac.made h.1 m)
theorem metRow_len (m : Int) (h : Int × Nat) : (metRow m h).length = 3 := rfl
theorem ok_judge_shot (T : Txt K mg Z) : DefOk P w K mg base 4 "judge_shot" ["net", "number", "dx", "dy", "t1", "t2", "n", "d"] (fun vs H Q E => ∃ c dx dy t1 t2 n d : Int, spCall Z (.shot c dx dy t1 t2 n d) [.int c, .int dx, .int dy, .int t1, .int t2, .int n, .int d] vs H Q E) := by
  refine T.f_judge_shot.ok sc_judge_shot (fun vs H Q E h => ?_) (fun f cdv A outer s H vs Q E hr h => ⟨_, (pss_cons (ps_if (pt_cmp (pc_dnotin (hu_of hr) (pv 1) (pe_fld (pv 0) rfl))) (pss_one (ps_ret (pe_lst (pa_cons (pe_gc T.c_NO_SUCH) pa_nil)))) pss_nil)
      (pss_cons (ps_if (pt_not (PW.pt (pw_and (pt_val (pe_def (ok_is_direction T) hr (pa_cons (pv 2) (pa_cons (pv 3) pa_nil)))) (pw_and (pt_val (pe_def (ok_is_time T) hr (pa_cons (pv 6) (pa_cons (pv 7) pa_nil)))) (pw_and1 (pt_val (pe_def (ok_are_ticks_around T) hr (pa_cons (pv 4) (pa_cons (pv 5) (pa_cons (pv 6) (pa_cons (pv 7) pa_nil))))))))))) (pss_one (ps_ret (pe_lst (pa_cons (pe_gc T.c_OUT_OF_RANGE) pa_nil)))) pss_nil)
      (pss_cons (ps_if (PW.pt (pw_or (pt_cmp (pc_dnotin (hu_of hr) (pv 4) (pe_fld (pv 0) rfl))) (pw_or1 (pt_cmp (pc_dnotin (hu_of hr) (pv 5) (pe_fld (pv 0) rfl)))))) (pss_one (ps_ret (pe_lst (pa_cons (pe_gc T.c_NOT_KEPT) pa_nil)))) pss_nil)
      (pss_cons (ps_set (i := 8) sc_judge_shot.nd rfl (Or.inl rfl) (pe_fld (pe_dget (hu_of hr) (pe_fld (pv 0) rfl) (pv 1) (fun _ _ => rfl)) rfl))
      (pss_cons (ps_set (i := 9) sc_judge_shot.nd rfl (Or.inl rfl) (pe_op op_mul (pe_gc T.c_KEYS_OF_A_BODY) (pv 8)))
      (pss_cons (ps_set (i := 10) sc_judge_shot.nd rfl (Or.inl rfl) (pe_new (mk_Shot T) hr (pa_cons (pe_dget (hu_of hr) (pe_fld (pv 0) rfl) (pv 9) (fun _ _ => rfl)) (pa_cons (pe_dget (hu_of hr) (pe_fld (pv 0) rfl) (pe_op op_add (pv 9) pe_int) (fun _ _ => rfl)) (pa_cons (pv 2) (pa_cons (pv 3) pa_nil))))))
      (pss_cons (ps_set (i := 11) sc_judge_shot.nd rfl (Or.inl rfl) (pe_new (mk_Between T) hr (pa_cons (pe_fld (pv 0) rfl) (pa_cons (pv 4) (pa_cons (pv 5) (pa_cons (pv 6) (pa_cons (pv 7) pa_nil)))))))
      (pss_cons (ps_set (i := 12) sc_judge_shot.nd rfl (Or.inl rfl) (pe_m (ok_Shot_meets T) T.cl_Shot hr (pv 10) (pa_cons (pv 11) (pa_cons (pv 8) pa_nil))))
      (pss_cons (ps_set (i := 13) sc_judge_shot.nd rfl (Or.inl rfl) (pe_lst (pa_cons pe_int (pa_cons (pe_callB call_len_seq (by rfl) T.n_len (by decide +kernel) (pa_cons (pv 12) pa_nil)) pa_nil))))
      (pss_cons (ps_for PassesOwn.never rfl (pi_list (pv 12)) (pg_tup rfl (pgs_cons (pg_name (i := 14) sc_judge_shot.nd rfl (Or.inl rfl)) (pgs_cons (pg_name (i := 15) sc_judge_shot.nd rfl (Or.inl rfl)) pgs_nil))) (pss_cons (ps_expr (pe_bm PySem.F.plainAttrs_list PySem.F.slot_list_append PySem.F.type_list_append mt_append (pv 13) (pa_cons (pv 15) pa_nil)))
      (pss_one (ps_expr (pe_bm PySem.F.plainAttrs_list PySem.F.slot_list_extend PySem.F.type_list_extend mt_extend (pv 13) (pa_cons (pe_def (ok_least_terms T) hr (pa_cons (pv 14) (pa_cons (pe_op op_mul (pe_fld (pv 11) rfl) (pe_fld (pv 10) rfl)) pa_nil))) pa_nil))))))
      (pss_one (ps_ret (pv 13))))))))))))), ?_⟩)
  · obtain ⟨c, dx, dy, t1, t2, nu, d, L, net, s, n, hist, rfl, _⟩ := h; rfl
  · obtain ⟨c, dx, dy, t1, t2, nu, d, L, net, st, n, hist, rfl, ⟨A, sa⟩, iv, hn, q⟩ := h
    have q : Wants Z (.shot c dx dy t1 t2 nu d) L H net st Q := q
    have h0 := sa.h0
    rcases sa.onCl iv c with ⟨no, e1, e2⟩ | ⟨k, p, p', x, x', l1, l2, l1', l2', m1, m2, m1', m2', rfl, s1, s2, on⟩
    · refine st_seq (st_y (val_dnotin (val_var rfl) (val_net (f := "clients") (val_var rfl) h0 T T.na_Net_clients lk_Net_clients) sa.hc) (by rw [e1]; rfl) ?_)
      refine st_retL (fun Q q => q) (by decide) fun p hp => q.same sa (xs := [-1]) ?_ (Same.refl H) hp
      rw [Vbwsah.step, no]
    refine st_seq (st_n (val_dnotin (val_var rfl) (val_net (f := "clients") (val_var rfl) h0 T T.na_Net_clients lk_Net_clients) sa.hc) (by rw [s1.val]; rfl) ?_)
    obtain ⟨dxx, wd, idd, lw, li, bo, cp⟩ := s1.r
    obtain ⟨all, recv, per⟩ := iv.per _ _ _ s2.mem s1.mem
    have est := shot_step on dx dy t1 t2 nu d
    have vard : ∀ {σ : L2.St} {ta tb tc td : TE}, Val ta σ H (.int t1) → Val tb σ H (.int t2) → Val tc σ H (.int nu) → Val td σ H (.int d) → Val (tCall spAround [] E0 (tCons ta (tCons tb (tCons tc (tCons td tNil))))) σ H (.bl (around t1 t2 nu d)) := fun {σ ta tb tc td} h1 h2 h3 h4 Q q => h1 _ (h2 _ (h3 _ (h4 _ ⟨t1, t2, nu, d, rfl, q⟩)))
    have at1 : Ans (tNot (tAnd (tB (tCall (spB2 fun a b => (inR (-1000) 1000 a && inR (-1000) 1000 b) && !(decide (a = 0) && decide (b = 0))) [] E0 (tCons (tVar 2) (tCons (tVar 3) tNil)))) (tAnd (tB (tCall (spB2 fun n d => inR 0 1000000 n && inR 1 1000 d) [] E0 (tCons (tVar 6) (tCons (tVar 7) tNil)))) (tB (tCall spAround [] E0 (tCons (tVar 4) (tCons (tVar 5) (tCons (tVar 6) (tCons (tVar 7) tNil)))))))))
        [some (.ref net), some (.int (k : Int)), some (.int dx), some (.int dy), some (.int t1), some (.int t2), some (.int nu), some (.int d), none, none, none, none, none, none, none, none] H (!okShot dx dy t1 t2 nu d) :=
      ans_not (ans_and2 (ans_val (val_B2 (f := fun a b => (inR (-1000) 1000 a && inR (-1000) 1000 b) && !(decide (a = 0) && decide (b = 0))) (val_var rfl) (val_var rfl))) (ans_and2 (ans_val (val_B2 (f := fun n d => inR 0 1000000 n && inR 1 1000 d) (val_var rfl) (val_var rfl))) (ans_val (vard (val_var rfl) (val_var rfl) (val_var rfl) (val_var rfl)))))
    by_cases c1 : okShot dx dy t1 t2 nu d = true
    · rw [if_pos c1] at est
      refine st_seq (st_n at1 (by rw [c1]; rfl) ?_)
      obtain ⟨a1, a2, a3, a4, a5, a6, a7, a8, a9, a10, a11, a12, a13, a14⟩ := okShot_iff.mp c1
      obtain ⟨u1, rfl⟩ : ∃ u : Nat, t1 = (u : Int) := ⟨t1.toNat, by omega⟩
      obtain ⟨u2, rfl⟩ : ∃ u : Nat, t2 = (u : Int) := ⟨t2.toNat, by omega⟩
      rw [Int.toNat_natCast, Int.toNat_natCast] at est
      have dp := past_desc iv
      have vk : ∀ {σ : L2.St}, σ[0]? = some (some (.ref net)) → Val (tFld K (tVar 0) "kept") σ H (.ref A.kd) := fun {σ} h => val_net (f := "kept") (val_var h) h0 T T.na_Net_kept lk_Net_kept
      have at2 : Ans (tOr (tTest (tDNotIn (tVar 4) (tFld K (tVar 0) "kept"))) (tTest (tDNotIn (tVar 5) (tFld K (tVar 0) "kept")))) [some (.ref net), some (.int (k : Int)), some (.int dx), some (.int dy), some (.int (u1 : Int)), some (.int (u2 : Int)), some (.int nu), some (.int d), none, none, none, none, none, none, none, none] H ((!(valV (encR A.lk) (ik (u1 : Int))).isSome) || (!(valV (encR A.lk) (ik (u2 : Int))).isSome)) :=
        ans_orB (val_dnotin (val_var rfl) (vk rfl) sa.hk) (val_dnotin (val_var rfl) (vk rfl) sa.hk)
      rcases ring_find sa.rk dp u1 with ⟨f1, v1⟩ | ⟨w1, ad1, f1, mem1, v1, wt1⟩
      · refine st_seq (st_y at2 (by rw [v1]; rfl) ?_)
        rw [f1] at est
        exact st_retL (fun Q q => q) (by decide) fun p hp => q.same sa (xs := [-8]) est (Same.refl H) hp
      rcases ring_find sa.rk dp u2 with ⟨f2, v2⟩ | ⟨w2, ad2, f2, mem2, v2, wt2⟩
      · refine st_seq (st_y at2 (by rw [v2, Option.isSome_none, Bool.not_false, Bool.or_true]) ?_)
        rw [f1, f2] at est
        exact st_retL (fun Q q => q) (by decide) fun p hp => q.same sa (xs := [-8]) est (Same.refl H) hp
      refine st_seq (st_n at2 (by rw [v1, v2]; rfl) ?_)
      rw [f1, f2] at est
      dsimp only at est
      -- the two worlds are good
      have good : ∀ {t : Nat} {v : Vbwsah.World}, (t, v) ∈ st.past → GoodW t v := fun {t v} hm => by
        rw [iv.past] at hm
        obtain ⟨i, hi, e⟩ := List.mem_map.mp hm
        obtain ⟨z1, z2⟩ := Prod.mk.inj e
        rw [← z1, ← z2]
        exact iv.good _ (by omega)
      have g1 := good mem1
      have g2 := good mem2
      -- where it goes from
      obtain ⟨hb8, hib⟩ := iv.body _ s2.mem
      have ebd : x.body = x'.body := per.same
      rw [show (k, x').2.body = x'.body from rfl, ← ebd] at hb8 hib
      obtain ⟨ox, oy, ou, ov, on', ex, ey, eu, ev, en, hx, hy, hu, hv, hnn⟩ := iv.world.has hb8 hib
      have eox : Vbwsah.at_ st.world (Vbwsah.keyOf x.body 0) = ox := by
        unfold Vbwsah.at_ Vbwsah.keyOf
        rw [Nat.add_zero, ex]; rfl
      have eoy : Vbwsah.at_ st.world (Vbwsah.keyOf x.body 1) = oy := by
        unfold Vbwsah.at_ Vbwsah.keyOf
        rw [ey]; rfl
      rw [eox, eoy] at est
      have vox : valV A.kw (ik (4 * (x.body : Int))) = some (.int ox) := by
        rw [show 4 * (x.body : Int) = ((4 * x.body : Nat) : Int) by omega, sa.rw.get, ex]; rfl
      have voy : valV A.kw (ik (4 * (x.body : Int) + 1)) = some (.int oy) := by
        rw [show 4 * (x.body : Int) + 1 = ((4 * x.body + 1 : Nat) : Int) by omega, sa.rw.get, ey]; rfl
      have vcl : ∀ {σ : L2.St}, σ[0]? = some (some (.ref net)) → σ[1]? = some (some (.int (k : Int))) → Val (tFld K (tDGet (tFld K (tVar 0) "clients") (tVar 1)) "body") σ H (.int (x.body : Int)) := fun {σ} h0' h1' => val_fld (val_dget (val_net (f := "clients") (val_var h0') h0 T T.na_Net_clients lk_Net_clients) (val_var h1') sa.hc s1.val) cp.h1 T.cl_Client T.na_Client_body lk_Client_body
      refine st_seq (st_set (vcl rfl rfl) ?_)
      refine st_seq (st_set (val_mul val_c (val_var rfl) (.inl ⟨by decide, by decide⟩)) ?_)
      have vwd : ∀ {σ : L2.St}, σ[0]? = some (some (.ref net)) → Val (tFld K (tVar 0) "world") σ H (.ref A.wa) := fun {σ} h => val_net (f := "world") (val_var h) h0 T T.na_Net_world lk_Net_world
      refine (val_dget (vwd rfl) (val_var rfl) sa.hw vox) _ ?_
      refine (val_dget (vwd rfl) (val_add (val_var rfl) val_c) sa.hw voy) _ ?_
      refine ⟨_, rfl, _, rfl, ?_⟩
      intro sh dd hsh hdd _
      refine ⟨sh, dd, ox, oy, dx, dy, rfl, upd_same, a1, a2, a3, a4, ⟨rfl, ?_⟩⟩
      have sm1 : Same H (upd (upd (upd H dd (.own sh)) sh (.ins Z.Shot dd [])) sh (oShot Z dd ox oy dx dy (dx * dx + dy * dy))) := MN.Same.mut (MN.Same.mut (Same.new hdd) hsh) hsh
      generalize hH1 : upd (upd (upd H dd (.own sh)) sh (.ins Z.Shot dd [])) sh (oShot Z dd ox oy dx dy (dx * dx + dy * dy)) = H1 at sm1 ⊢
      have hsh1 : H1 sh = some (oShot Z dd ox oy dx dy (dx * dx + dy * dy)) := by rw [← hH1]; exact upd_same
      -- between
      refine ⟨_, rfl, net, Z.Net, A.dx, _, _, rfl, sm1 _ _ h0, T.cl_Net, T.na_Net_kept, lk_Net_kept, _, rfl, _, rfl, _, rfl, _, rfl, ?_⟩
      intro bt db hbt hdb _
      have s0' : Same H1 (upd (upd H1 db (.own bt)) bt (.ins Z.Between db [])) := MN.Same.mut (Same.new hdb) hbt
      refine ⟨bt, db, A.kd, ad1, ad2, encR A.lk, (u1 : Int), (u2 : Int), nu, d, rfl, upd_same, s0' _ _ (sm1 _ _ sa.hk), v1, v2, by omega, a9, ⟨rfl, ?_⟩⟩
      have sm2' : Same H1 (upd (upd (upd H1 db (.own bt)) bt (.ins Z.Between db [])) bt (oBetween Z db ad1 ad2 (((u2 : Int) - u1) * d) (nu - (u1 : Int) * d))) := MN.Same.mut s0' hbt
      generalize hH2 : upd (upd (upd H1 db (.own bt)) bt (.ins Z.Between db [])) bt (oBetween Z db ad1 ad2 (((u2 : Int) - u1) * d) (nu - (u1 : Int) * d)) = H2 at sm2' ⊢
      have hbt2 : H2 bt = some (oBetween Z db ad1 ad2 (((u2 : Int) - u1) * d) (nu - (u1 : Int) * d)) := by rw [← hH2]; exact upd_same
      have hsh2 := sm2' _ _ hsh1
      have sm2 := sm1.trans sm2'
      have ml := mul_bound (a := (u2 : Int) - u1) (b := d) (by omega) (by omega) (by omega) a9
      have mp := mul_bound (a := (u1 : Int)) (b := d) (by omega) (by omega) (by omega) a9
      have hd0 : 0 < d := by omega
      have mp0 : 0 ≤ (u1 : Int) * d := Int.mul_nonneg (by omega) (by omega)
      have hl0 : 0 < ((u2 : Int) - u1) * d := Int.mul_pos (by omega) hd0
      have hS := sq_pos a5
      have q1 := mul_le (a := dx) (b := dx) (A := 1000) (B := 1000) (by omega) (by omega) (by omega) (by omega)
      have q2 := mul_le (a := dy) (b := dy) (A := 1000) (B := 1000) (by omega) (by omega) (by omega) (by omega)
      -- met
      refine ⟨_, rfl, sh, dd, _, rfl, hsh2, nm_Shot_meets, _, rfl, _, rfl, sh, dd, bt, db, ad1, ad2, ox, oy, dx, dy, ((u2 : Int) - u1) * d, nu - (u1 : Int) * d, x.body, u1, u2, w1, w2, rfl, hsh2, hbt2, wt1.keep fun o e => sm2 _ _ e, wt2.keep fun o e => sm2 _ _ e, g1, g2, ⟨hx.1, hx.2, hy.1, hy.2, a1, a2, a3, a4, by omega, by omega, by omega, by omega⟩, fun H3 pm rs M sm3' hpm hM hMp prM hpm' => ?_⟩
      have sm3 := sm2.trans sm3'
      have hM8 : M.length ≤ 8 := by
        rw [hMp.length_eq]
        exact Nat.le_trans (List.length_filterMap_le _ _) (by rw [List.length_range]; omega)
      have hrs : rs.length = M.length := Paired.len prM
      rw [sorted_is hd0 (by omega) hS hM hMp] at est
      generalize hmm : (((u2 : Int) - u1) * d) * (dx * dx + dy * dy) = mm at est
      have hmm0 : 0 < mm := by rw [← hmm]; exact Int.mul_pos hl0 hS
      have hmm1 : mm < 2 ^ 60 := by
        have := mul_le (a := ((u2 : Int) - u1) * d) (b := dx * dx + dy * dy) (A := 20000000) (B := 2000000) (by omega) (by omega) (by omega) (by omega)
        rw [hmm] at this
        omega
      have est2 : Vbwsah.step st (.shot (k : Int) dx dy (u1 : Int) (u2 : Int) nu d) = (st, [0, (M.length : Int)] ++ M.flatMap (metRow mm)) := by
        rw [est, List.length_map, List.flatMap_map]; rfl
      -- told
      refine ⟨_, rfl, pm, _, rfl, .inl (SqL.of hpm'), ?_⟩
      refine ⟨(by show 2 ≤ sizeLine; decide), fun C hC => ?_⟩
      rw [List.length_map, hrs]
      have s4 : Same H3 (upd H3 C (.lst [.int 0, .int (M.length : Int)])) := Same.new hC
      refine ⟨_, rfl, pm, rfl, ⟨_, SqL.of (s4 _ _ hpm')⟩, for_list (K := K) (a := pm) (xs := rs.map V.ref) (fun i σ H' => ∃ (v14 v15 : Option V), σ = [some (.ref net), some (.int (k : Int)), some (.int dx), some (.int dy), some (.int (u1 : Int)), some (.int (u2 : Int)), some (.int nu), some (.int d), some (.int (x.body : Int)), some (.int (4 * (x.body : Int))), some (.ref sh), some (.ref bt), some (.ref pm), some (.ref C), v14, v15] ∧ Same H3 H' ∧
        H' C = some (.lst (([0, (M.length : Int)] ++ (M.take i).flatMap (metRow mm)).map V.int))) ⟨none, none, rfl, s4, upd_same⟩ (fun i σ H' _ ⟨_, _, _, s5, _⟩ => SqL.of (s5 _ _ hpm')) ?_ ?_⟩
      · rintro i v σ H' hi ⟨v14, v15, rfl, sm, hC'⟩
        rw [List.getElem?_map] at hi
        cases er : rs[i]? with
        | none => rw [er] at hi; cases hi
        | some r =>
          rw [er] at hi
          cases hi
          obtain ⟨h, hdi, hr⟩ := Paired.at prM er
          have hr' : H' r = some (.tup [.int h.1, .int (h.2 : Int)]) := sm _ _ hr
          have hfl : ((M.take i).flatMap (metRow mm)).length ≤ 24 := by
            rw [flat_len (metRow_len mm), List.length_take]; omega
          generalize hrow : [0, (M.length : Int)] ++ (M.take i).flatMap (metRow mm) = row at hC'
          have hrl : row.length ≤ 26 := by
            rw [← hrow, List.length_append]
            show 2 + _ ≤ _
            omega
          refine ⟨r, _, rfl, SqT.of hr', rfl, ?_⟩
          refine ⟨_, _, rfl, _, _, rfl, rfl, ?_⟩
          refine ⟨_, rfl, .inl ⟨rfl, _, SqL.of hC'⟩, _, rfl, C, _, _, rfl, rfl, hC', sizeL (by rw [List.length_map]; omega), ?_⟩
          have sm5 := MN.Same.mut (o := .lst (row.map V.int ++ [.int (h.2 : Int)])) sm hC
          refine ⟨_, rfl, .inl ⟨rfl, _, SqL.of upd_same⟩, _, rfl, _, rfl, bt, Z.Between, db, _, _, rfl, sm5 _ _ (sm3' _ _ hbt2), T.cl_Between, T.na_Between_lower_number, lk_Between_lower_number, _, rfl, sh, Z.Shot, dd, _, _, rfl, sm5 _ _ (sm3' _ _ hsh2), T.cl_Shot, T.na_Shot_squared_step, lk_Shot_squared_step, _, _, rfl, rfl, .inr ⟨by omega, by omega⟩, h.1, _, rfl, by rw [hmm]; exact hmm0, by rw [hmm]; exact hmm1, fun B hB => ?_⟩
          rw [hmm]
          have nCB : C ≠ B := ne_of_none upd_same hB
          refine ⟨C, B, _, _, rfl, rfl, by rw [upd_ne nCB]; exact upd_same, upd_same, ?_, ?_⟩
          · rw [List.length_append, List.length_map, fracV_len]
            exact Nat.le_of_lt (sizeL (by show row.length + 1 + 2 < _; omega))
          refine ⟨_, _, rfl, MN.Same.mut (sm5.trans (Same.new hB)) hC, ?_⟩
          rw [upd_same, flat_take hdi, ← List.append_assoc, hrow]
          unfold metRow fracV
          simp
      · rintro σ H' ⟨v14, v15, rfl, sm, hC'⟩
        rw [List.length_map, hrs, List.take_length] at hC'
        refine ⟨_, rfl, ?_⟩
        have smf := sm3.trans sm
        refine q _ L C ?_ (Same.keep smf) (LSame.refl H L) (sm3.free hC) ?_
        · rw [est2]; exact ⟨_, sa.same smf⟩
        · rw [hC', est2]
    · rw [if_neg c1] at est
      refine st_seq (st_y at1 (by
        have c1 : okShot dx dy t1 t2 nu d = false := by simpa using c1
        rw [c1]; rfl) ?_)
      exact st_retL (fun Q q => q) (by decide) fun p hp => q.same sa (xs := [-2]) est (Same.refl H) hp
end MN
set_option Elab.async false
set_option maxRecDepth 100000
set_option maxHeartbeats 2000000
set_option linter.unusedVariables false
set_option linter.unusedSimpArgs false
namespace MN
open PySem PySem.Spec PyProof.Rows L2
open Vbwsah (Input Numbered Known Client State Packet Ring)
variable {P : Program} {w : World} {K : PySem.W.Frag} {mg : Str → Option Value} {base : Heap} {Z : Cs}
section
variable {σ : L2.St} {H : Hp} {ta tb : TE} {t : TA} {D : Ends}
def VA (t : TA) (σ : L2.St) (H : Hp) (vs : List V) : Prop := ∀ Q : List V → Hp → Prop, Q vs H → t σ H Q
theorem va_nil : VA tNil σ H [] := fun _ q => q
theorem va_cons {v : V} {vs : List V} (h1 : Val ta σ H v) (h2 : VA t σ H vs) : VA (tCons ta t) σ H (v :: vs) := fun Q q => h1 _ (h2 _ q)
theorem st_rcall {sp : Sp} {vs : List V} (h : VA t σ H vs) (q : sp (vs ++ []) H D.rt E0) : tRet (tCall sp [] E0 t) D σ H := h _ q
theorem val_ix {a : Addr} {xs : List V} {i : Int} {v : V} (h1 : Val ta σ H (.ref a)) (h2 : Val tb σ H (.int i)) (ha : H a = some (.lst xs)) (hv : atI xs i = some v) : Val (tOp (rIxL K) ta tb) σ H v := val_op h1 h2 fun Q q => ⟨a, xs, i, v, rfl, rfl, SqL.of ha, hv, q⟩
end
/-- one call of the list -/
def spAns (Z : Cs) (ok : Int → Prop) : Sp := fun vs H Q _ => ∃ (L : Lb) (net : Addr) (s : State) (n : Nat) (hist : Nat → Vbwsah.World) (p : Int) (args : List Int) (ra : Addr) (c : Vbwsah.Call), vs = [.ref net, .int p, .ref ra] ∧ H ra = some (.lst (args.map V.int)) ∧ Vbwsah.callOf [p :: args] = some c ∧ ok p ∧
  St Z L H net s ∧ HInv n s hist ∧ n ≤ 300 ∧ ∀ H' L' q, St Z L' H' net (Vbwsah.step s c).1 → Keep L OwnM H H' → LSame H L L' → H q = none → H' q = some (.lst ((Vbwsah.step s c).2.map V.int)) → Q (.ref q) H'
theorem eq_yes {σ : L2.St} {H : Hp} {te : TE} {i j : Int} (h : Val te σ H (.int i)) (e : i = j) : Ans (tTest (tOp rEq te (tC (.int j)))) σ H true := ans_eq h val_c rfl (decide_eq_true (by rw [e]))
theorem eq_no {σ : L2.St} {H : Hp} {te : TE} {i j : Int} (h : Val te σ H (.int i)) (e : i ≠ j) : Ans (tTest (tOp rEq te (tC (.int j)))) σ H false := ans_eq h val_c rfl (decide_eq_false (fun z => e (V.int.inj z)))
theorem ok_answer_first_ten (T : Txt K mg Z) : DefOk P w K mg base 7 "answer_first_ten" ["net", "call", "row"] (spAns Z fun p => p ≤ 9) := by
  refine T.f_answer_first_ten.ok sc_answer_first_ten (fun vs H Q E h => ?_) (fun f cdv A outer s H vs Q E hr h => ⟨_, (pss_cons (ps_if (pt_cmpR op_eq (pv 1) pe_int (nomark _)) (pss_one (ps_ret (pe_def (ok_make_body T) hr (pa_cons (pv 0) (pa_cons (pe_ix ix_list (pv 2) pe_int (fun _ _ => rfl)) (pa_cons (pe_ix ix_list (pv 2) pe_int (fun _ _ => rfl)) (pa_cons (pe_ix ix_list (pv 2) pe_int (fun _ _ => rfl)) (pa_cons (pe_ix ix_list (pv 2) pe_int (fun _ _ => rfl)) (pa_cons (pe_ix ix_list (pv 2) pe_int (fun _ _ => rfl)) pa_nil))))))))) pss_nil)
      (pss_cons (ps_if (pt_cmpR op_eq (pv 1) pe_int (nomark _)) (pss_one (ps_ret (pe_def (ok_make_client T) hr (pa_cons (pv 0) (pa_cons (pe_ix ix_list (pv 2) pe_int (fun _ _ => rfl)) (pa_cons (pe_ix ix_list (pv 2) pe_int (fun _ _ => rfl)) pa_nil)))))) pss_nil)
      (pss_cons (ps_if (pt_cmpR op_eq (pv 1) pe_int (nomark _)) (pss_one (ps_ret (pe_def (ok_set_key T) hr (pa_cons (pv 0) (pa_cons (pe_ix ix_list (pv 2) pe_int (fun _ _ => rfl)) (pa_cons (pe_ix ix_list (pv 2) pe_int (fun _ _ => rfl)) pa_nil)))))) pss_nil)
      (pss_cons (ps_if (pt_cmpR op_eq (pv 1) pe_int (nomark _)) (pss_one (ps_ret (pe_def (ok_unset_key T) hr (pa_cons (pv 0) (pa_cons (pe_ix ix_list (pv 2) pe_int (fun _ _ => rfl)) pa_nil))))) pss_nil)
      (pss_cons (ps_if (pt_cmpR op_eq (pv 1) pe_int (nomark _)) (pss_one (ps_ret (pe_def (ok_run_tick T) hr (pa_cons (pv 0) pa_nil)))) pss_nil)
      (pss_cons (ps_if (pt_cmpR op_eq (pv 1) pe_int (nomark _)) (pss_one (ps_ret (pe_def (ok_send_down T) hr (pa_cons (pv 0) (pa_cons (pe_ix ix_list (pv 2) pe_int (fun _ _ => rfl)) pa_nil))))) pss_nil)
      (pss_cons (ps_if (pt_cmpR op_eq (pv 1) pe_int (nomark _)) (pss_one (ps_ret (pe_def (ok_send_up T) hr (pa_cons (pv 0) (pa_cons (pe_ix ix_list (pv 2) pe_int (fun _ _ => rfl)) pa_nil))))) pss_nil)
      (pss_cons (ps_if (pt_cmpR op_eq (pv 1) pe_int (nomark _)) (pss_one (ps_ret (pe_def (ok_deliver T) hr (pa_cons (pv 0) (pa_cons (pe_ix ix_list (pv 2) pe_int (fun _ _ => rfl)) pa_nil))))) pss_nil)
      (pss_cons (ps_if (pt_cmpR op_eq (pv 1) pe_int (nomark _)) (pss_one (ps_ret (pe_def (ok_add_input T) hr (pa_cons (pv 0) (pa_cons (pe_ix ix_list (pv 2) pe_int (fun _ _ => rfl)) (pa_cons (pe_ix ix_list (pv 2) pe_int (fun _ _ => rfl)) (pa_cons (pe_ix ix_list (pv 2) pe_int (fun _ _ => rfl)) pa_nil))))))) pss_nil)
      (pss_one (ps_ret (pe_def (ok_tell_world T) hr (pa_cons (pv 0) pa_nil))))))))))))), ?_⟩)
  · obtain ⟨L, net, s, n, hist, p, args, ra, c, rfl, _⟩ := h; rfl
  · obtain ⟨L, net, st, n, hist, p, args, ra, c, rfl, hra, hc, hp, sa, iv, hn, q⟩ := h
    unfold Vbwsah.callOf at hc
    split at hc <;> rename_i heq <;> simp only [List.cons.injEq, and_true, reduceCtorEq] at heq <;> (try cases hc) <;> (try (obtain ⟨rfl, rfl⟩ := heq)) <;> (try (exact absurd hp (by show ¬ (_ : Int) ≤ _; decide)))
    all_goals
      repeat refine st_seq (st_no (eq_no (val_var rfl) (by decide)) ?_)
      first
        | exact st_seq (st_yes (eq_yes (val_var rfl) rfl) (st_rcall (va_cons (val_var rfl) va_nil) ⟨L, net, st, n, hist, rfl, sa, iv, hn, q⟩))
        | exact st_seq (st_yes (eq_yes (val_var rfl) rfl) (st_rcall (va_cons (val_var rfl) (va_cons (val_ix (val_var rfl) val_c hra rfl) va_nil)) ⟨_, L, net, st, n, hist, rfl, sa, iv, hn, q⟩))
        | exact st_seq (st_yes (eq_yes (val_var rfl) rfl) (st_rcall (va_cons (val_var rfl) (va_cons (val_ix (val_var rfl) val_c hra rfl) (va_cons (val_ix (val_var rfl) val_c hra rfl) va_nil))) ⟨_, _, L, net, st, n, hist, rfl, sa, iv, hn, q⟩))
        | exact st_seq (st_yes (eq_yes (val_var rfl) rfl) (st_rcall (va_cons (val_var rfl) (va_cons (val_ix (val_var rfl) val_c hra rfl) (va_cons (val_ix (val_var rfl) val_c hra rfl) (va_cons (val_ix (val_var rfl) val_c hra rfl) va_nil)))) ⟨_, _, _, L, net, st, n, hist, rfl, sa, iv, hn, q⟩))
        | exact st_seq (st_yes (eq_yes (val_var rfl) rfl) (st_rcall (va_cons (val_var rfl) (va_cons (val_ix (val_var rfl) val_c hra rfl) (va_cons (val_ix (val_var rfl) val_c hra rfl) (va_cons (val_ix (val_var rfl) val_c hra rfl) (va_cons (val_ix (val_var rfl) val_c hra rfl) va_nil))))) ⟨_, _, _, _, L, net, st, n, hist, rfl, sa, iv, hn, q⟩))
        | exact st_seq (st_yes (eq_yes (val_var rfl) rfl) (st_rcall (va_cons (val_var rfl) (va_cons (val_ix (val_var rfl) val_c hra rfl) (va_cons (val_ix (val_var rfl) val_c hra rfl) (va_cons (val_ix (val_var rfl) val_c hra rfl) (va_cons (val_ix (val_var rfl) val_c hra rfl) (va_cons (val_ix (val_var rfl) val_c hra rfl) va_nil)))))) ⟨_, _, _, _, _, L, net, st, n, hist, rfl, sa, iv, hn, q⟩))
        | exact st_seq (st_yes (eq_yes (val_var rfl) rfl) (st_rcall (va_cons (val_var rfl) (va_cons (val_ix (val_var rfl) val_c hra rfl) (va_cons (val_ix (val_var rfl) val_c hra rfl) (va_cons (val_ix (val_var rfl) val_c hra rfl) (va_cons (val_ix (val_var rfl) val_c hra rfl) (va_cons (val_ix (val_var rfl) val_c hra rfl) (va_cons (val_ix (val_var rfl) val_c hra rfl) va_nil))))))) ⟨_, _, _, _, _, _, L, net, st, n, hist, rfl, sa, iv, hn, q⟩))
        | exact st_seq (st_yes (eq_yes (val_var rfl) rfl) (st_rcall (va_cons (val_var rfl) (va_cons (val_ix (val_var rfl) val_c hra rfl) (va_cons (val_ix (val_var rfl) val_c hra rfl) (va_cons (val_ix (val_var rfl) val_c hra rfl) (va_cons (val_ix (val_var rfl) val_c hra rfl) (va_cons (val_ix (val_var rfl) val_c hra rfl) (va_cons (val_ix (val_var rfl) val_c hra rfl) (va_cons (val_ix (val_var rfl) val_c hra rfl) va_nil)))))))) ⟨_, _, _, _, _, _, _, L, net, st, n, hist, rfl, sa, iv, hn, q⟩))
        | exact st_rcall (va_cons (val_var rfl) va_nil) ⟨L, net, st, n, hist, rfl, sa, iv, hn, q⟩
        | (refine st_next ?_; dsimp only; exact st_rcall (va_cons (val_var rfl) (va_cons (val_ix (val_var rfl) val_c hra rfl) va_nil)) ⟨_, L, net, st, n, hist, rfl, sa, iv, hn, q⟩)
        | exact st_rcall (va_cons (val_var rfl) (va_cons (val_ix (val_var rfl) val_c hra rfl) va_nil)) ⟨_, L, net, st, n, hist, rfl, sa, iv, hn, q⟩
        | exact st_rcall (va_cons (val_var rfl) (va_cons (val_ix (val_var rfl) val_c hra rfl) (va_cons (val_ix (val_var rfl) val_c hra rfl) va_nil))) ⟨_, _, L, net, st, n, hist, rfl, sa, iv, hn, q⟩
        | exact st_rcall (va_cons (val_var rfl) (va_cons (val_ix (val_var rfl) val_c hra rfl) (va_cons (val_ix (val_var rfl) val_c hra rfl) (va_cons (val_ix (val_var rfl) val_c hra rfl) va_nil)))) ⟨_, _, _, L, net, st, n, hist, rfl, sa, iv, hn, q⟩
        | exact st_rcall (va_cons (val_var rfl) (va_cons (val_ix (val_var rfl) val_c hra rfl) (va_cons (val_ix (val_var rfl) val_c hra rfl) (va_cons (val_ix (val_var rfl) val_c hra rfl) (va_cons (val_ix (val_var rfl) val_c hra rfl) va_nil))))) ⟨_, _, _, _, L, net, st, n, hist, rfl, sa, iv, hn, q⟩
        | exact st_rcall (va_cons (val_var rfl) (va_cons (val_ix (val_var rfl) val_c hra rfl) (va_cons (val_ix (val_var rfl) val_c hra rfl) (va_cons (val_ix (val_var rfl) val_c hra rfl) (va_cons (val_ix (val_var rfl) val_c hra rfl) (va_cons (val_ix (val_var rfl) val_c hra rfl) va_nil)))))) ⟨_, _, _, _, _, L, net, st, n, hist, rfl, sa, iv, hn, q⟩
        | exact st_rcall (va_cons (val_var rfl) (va_cons (val_ix (val_var rfl) val_c hra rfl) (va_cons (val_ix (val_var rfl) val_c hra rfl) (va_cons (val_ix (val_var rfl) val_c hra rfl) (va_cons (val_ix (val_var rfl) val_c hra rfl) (va_cons (val_ix (val_var rfl) val_c hra rfl) (va_cons (val_ix (val_var rfl) val_c hra rfl) va_nil))))))) ⟨_, _, _, _, _, _, L, net, st, n, hist, rfl, sa, iv, hn, q⟩
        | exact st_rcall (va_cons (val_var rfl) (va_cons (val_ix (val_var rfl) val_c hra rfl) (va_cons (val_ix (val_var rfl) val_c hra rfl) (va_cons (val_ix (val_var rfl) val_c hra rfl) (va_cons (val_ix (val_var rfl) val_c hra rfl) (va_cons (val_ix (val_var rfl) val_c hra rfl) (va_cons (val_ix (val_var rfl) val_c hra rfl) (va_cons (val_ix (val_var rfl) val_c hra rfl) va_nil)))))))) ⟨_, _, _, _, _, _, _, L, net, st, n, hist, rfl, sa, iv, hn, q⟩
theorem ok_answer_last_ten (T : Txt K mg Z) : DefOk P w K mg base 6 "answer_last_ten" ["net", "call", "row"] (spAns Z fun p => 10 ≤ p) := by
  refine T.f_answer_last_ten.ok sc_answer_last_ten (fun vs H Q E h => ?_) (fun f cdv A outer s H vs Q E hr h => ⟨_, (pss_cons (ps_if (pt_cmpR op_eq (pv 1) pe_int (nomark _)) (pss_one (ps_ret (pe_def (ok_tell_base T) hr (pa_cons (pv 0) (pa_cons (pe_ix ix_list (pv 2) pe_int (fun _ _ => rfl)) pa_nil))))) pss_nil)
      (pss_cons (ps_if (pt_cmpR op_eq (pv 1) pe_int (nomark _)) (pss_one (ps_ret (pe_def (ok_tell_guess T) hr (pa_cons (pv 0) (pa_cons (pe_ix ix_list (pv 2) pe_int (fun _ _ => rfl)) pa_nil))))) pss_nil)
      (pss_cons (ps_if (pt_cmpR op_eq (pv 1) pe_int (nomark _)) (pss_one (ps_ret (pe_def (ok_render T) hr (pa_cons (pv 0) (pa_cons (pe_ix ix_list (pv 2) pe_int (fun _ _ => rfl)) (pa_cons (pe_ix ix_list (pv 2) pe_int (fun _ _ => rfl)) (pa_cons (pe_ix ix_list (pv 2) pe_int (fun _ _ => rfl)) (pa_cons (pe_ix ix_list (pv 2) pe_int (fun _ _ => rfl)) pa_nil)))))))) pss_nil)
      (pss_cons (ps_if (pt_cmpR op_eq (pv 1) pe_int (nomark _)) (pss_one (ps_ret (pe_def (ok_judge_shot T) hr (pa_cons (pv 0) (pa_cons (pe_ix ix_list (pv 2) pe_int (fun _ _ => rfl)) (pa_cons (pe_ix ix_list (pv 2) pe_int (fun _ _ => rfl)) (pa_cons (pe_ix ix_list (pv 2) pe_int (fun _ _ => rfl)) (pa_cons (pe_ix ix_list (pv 2) pe_int (fun _ _ => rfl)) (pa_cons (pe_ix ix_list (pv 2) pe_int (fun _ _ => rfl)) (pa_cons (pe_ix ix_list (pv 2) pe_int (fun _ _ => rfl)) (pa_cons (pe_ix ix_list (pv 2) pe_int (fun _ _ => rfl)) pa_nil))))))))))) pss_nil)
      (pss_cons (ps_if (pt_cmpR op_eq (pv 1) pe_int (nomark _)) (pss_one (ps_ret (pe_def (ok_exchange T) hr (pa_cons (pv 0) (pa_cons (pe_ix ix_list (pv 2) pe_int (fun _ _ => rfl)) (pa_cons (pe_ix ix_list (pv 2) pe_int (fun _ _ => rfl)) (pa_cons (pe_ix ix_list (pv 2) pe_int (fun _ _ => rfl)) (pa_cons (pe_ix ix_list (pv 2) pe_int (fun _ _ => rfl)) pa_nil)))))))) pss_nil)
      (pss_cons (ps_if (pt_cmpR op_eq (pv 1) pe_int (nomark _)) (pss_one (ps_ret (pe_def (ok_tell_offset T) hr (pa_cons (pv 0) (pa_cons (pe_ix ix_list (pv 2) pe_int (fun _ _ => rfl)) (pa_cons (pe_ix ix_list (pv 2) pe_int (fun _ _ => rfl)) pa_nil)))))) pss_nil)
      (pss_cons (ps_if (pt_cmpR op_eq (pv 1) pe_int (nomark _)) (pss_one (ps_ret (pe_def (ok_set_drift T) hr (pa_cons (pv 0) (pa_cons (pe_ix ix_list (pv 2) pe_int (fun _ _ => rfl)) pa_nil))))) pss_nil)
      (pss_cons (ps_if (pt_cmpR op_eq (pv 1) pe_int (nomark _)) (pss_one (ps_ret (pe_def (ok_tell_packet T) hr (pa_cons (pv 0) (pa_cons (pe_ix ix_list (pv 2) pe_int (fun _ _ => rfl)) pa_nil))))) pss_nil)
      (pss_cons (ps_if (pt_cmpR op_eq (pv 1) pe_int (nomark _)) (pss_one (ps_ret (pe_def (ok_tell_counts T) hr (pa_cons (pv 0) pa_nil)))) pss_nil)
      (pss_one (ps_ret (pe_def (ok_tell_ring T) hr (pa_cons (pv 0) (pa_cons (pe_ix ix_list (pv 2) pe_int (fun _ _ => rfl)) pa_nil)))))))))))))), ?_⟩)
  · obtain ⟨L, net, s, n, hist, p, args, ra, c, rfl, _⟩ := h; rfl
  · obtain ⟨L, net, st, n, hist, p, args, ra, c, rfl, hra, hc, hp, sa, iv, hn, q⟩ := h
    unfold Vbwsah.callOf at hc
    split at hc <;> rename_i heq <;> simp only [List.cons.injEq, and_true, reduceCtorEq] at heq <;> (try cases hc) <;> (try (obtain ⟨rfl, rfl⟩ := heq)) <;> (try (exact absurd hp (by show ¬ (_ : Int) ≤ _; decide)))
    all_goals
      repeat refine st_seq (st_no (eq_no (val_var rfl) (by decide)) ?_)
      first
        | exact st_seq (st_yes (eq_yes (val_var rfl) rfl) (st_rcall (va_cons (val_var rfl) va_nil) ⟨L, net, st, n, hist, rfl, sa, iv, hn, q⟩))
        | exact st_seq (st_yes (eq_yes (val_var rfl) rfl) (st_rcall (va_cons (val_var rfl) (va_cons (val_ix (val_var rfl) val_c hra rfl) va_nil)) ⟨_, L, net, st, n, hist, rfl, sa, iv, hn, q⟩))
        | exact st_seq (st_yes (eq_yes (val_var rfl) rfl) (st_rcall (va_cons (val_var rfl) (va_cons (val_ix (val_var rfl) val_c hra rfl) (va_cons (val_ix (val_var rfl) val_c hra rfl) va_nil))) ⟨_, _, L, net, st, n, hist, rfl, sa, iv, hn, q⟩))
        | exact st_seq (st_yes (eq_yes (val_var rfl) rfl) (st_rcall (va_cons (val_var rfl) (va_cons (val_ix (val_var rfl) val_c hra rfl) (va_cons (val_ix (val_var rfl) val_c hra rfl) (va_cons (val_ix (val_var rfl) val_c hra rfl) va_nil)))) ⟨_, _, _, L, net, st, n, hist, rfl, sa, iv, hn, q⟩))
        | exact st_seq (st_yes (eq_yes (val_var rfl) rfl) (st_rcall (va_cons (val_var rfl) (va_cons (val_ix (val_var rfl) val_c hra rfl) (va_cons (val_ix (val_var rfl) val_c hra rfl) (va_cons (val_ix (val_var rfl) val_c hra rfl) (va_cons (val_ix (val_var rfl) val_c hra rfl) va_nil))))) ⟨_, _, _, _, L, net, st, n, hist, rfl, sa, iv, hn, q⟩))
        | exact st_seq (st_yes (eq_yes (val_var rfl) rfl) (st_rcall (va_cons (val_var rfl) (va_cons (val_ix (val_var rfl) val_c hra rfl) (va_cons (val_ix (val_var rfl) val_c hra rfl) (va_cons (val_ix (val_var rfl) val_c hra rfl) (va_cons (val_ix (val_var rfl) val_c hra rfl) (va_cons (val_ix (val_var rfl) val_c hra rfl) va_nil)))))) ⟨_, _, _, _, _, L, net, st, n, hist, rfl, sa, iv, hn, q⟩))
        | exact st_seq (st_yes (eq_yes (val_var rfl) rfl) (st_rcall (va_cons (val_var rfl) (va_cons (val_ix (val_var rfl) val_c hra rfl) (va_cons (val_ix (val_var rfl) val_c hra rfl) (va_cons (val_ix (val_var rfl) val_c hra rfl) (va_cons (val_ix (val_var rfl) val_c hra rfl) (va_cons (val_ix (val_var rfl) val_c hra rfl) (va_cons (val_ix (val_var rfl) val_c hra rfl) va_nil))))))) ⟨_, _, _, _, _, _, L, net, st, n, hist, rfl, sa, iv, hn, q⟩))
        | exact st_seq (st_yes (eq_yes (val_var rfl) rfl) (st_rcall (va_cons (val_var rfl) (va_cons (val_ix (val_var rfl) val_c hra rfl) (va_cons (val_ix (val_var rfl) val_c hra rfl) (va_cons (val_ix (val_var rfl) val_c hra rfl) (va_cons (val_ix (val_var rfl) val_c hra rfl) (va_cons (val_ix (val_var rfl) val_c hra rfl) (va_cons (val_ix (val_var rfl) val_c hra rfl) (va_cons (val_ix (val_var rfl) val_c hra rfl) va_nil)))))))) ⟨_, _, _, _, _, _, _, L, net, st, n, hist, rfl, sa, iv, hn, q⟩))
        | exact st_rcall (va_cons (val_var rfl) va_nil) ⟨L, net, st, n, hist, rfl, sa, iv, hn, q⟩
        | (refine st_next ?_; dsimp only; exact st_rcall (va_cons (val_var rfl) (va_cons (val_ix (val_var rfl) val_c hra rfl) va_nil)) ⟨_, L, net, st, n, hist, rfl, sa, iv, hn, q⟩)
        | exact st_rcall (va_cons (val_var rfl) (va_cons (val_ix (val_var rfl) val_c hra rfl) va_nil)) ⟨_, L, net, st, n, hist, rfl, sa, iv, hn, q⟩
        | exact st_rcall (va_cons (val_var rfl) (va_cons (val_ix (val_var rfl) val_c hra rfl) (va_cons (val_ix (val_var rfl) val_c hra rfl) va_nil))) ⟨_, _, L, net, st, n, hist, rfl, sa, iv, hn, q⟩
        | exact st_rcall (va_cons (val_var rfl) (va_cons (val_ix (val_var rfl) val_c hra rfl) (va_cons (val_ix (val_var rfl) val_c hra rfl) (va_cons (val_ix (val_var rfl) val_c hra rfl) va_nil)))) ⟨_, _, _, L, net, st, n, hist, rfl, sa, iv, hn, q⟩
        | exact st_rcall (va_cons (val_var rfl) (va_cons (val_ix (val_var rfl) val_c hra rfl) (va_cons (val_ix (val_var rfl) val_c hra rfl) (va_cons (val_ix (val_var rfl) val_c hra rfl) (va_cons (val_ix (val_var rfl) val_c hra rfl) va_nil))))) ⟨_, _, _, _, L, net, st, n, hist, rfl, sa, iv, hn, q⟩
        | exact st_rcall (va_cons (val_var rfl) (va_cons (val_ix (val_var rfl) val_c hra rfl) (va_cons (val_ix (val_var rfl) val_c hra rfl) (va_cons (val_ix (val_var rfl) val_c hra rfl) (va_cons (val_ix (val_var rfl) val_c hra rfl) (va_cons (val_ix (val_var rfl) val_c hra rfl) va_nil)))))) ⟨_, _, _, _, _, L, net, st, n, hist, rfl, sa, iv, hn, q⟩
        | exact st_rcall (va_cons (val_var rfl) (va_cons (val_ix (val_var rfl) val_c hra rfl) (va_cons (val_ix (val_var rfl) val_c hra rfl) (va_cons (val_ix (val_var rfl) val_c hra rfl) (va_cons (val_ix (val_var rfl) val_c hra rfl) (va_cons (val_ix (val_var rfl) val_c hra rfl) (va_cons (val_ix (val_var rfl) val_c hra rfl) va_nil))))))) ⟨_, _, _, _, _, _, L, net, st, n, hist, rfl, sa, iv, hn, q⟩
        | exact st_rcall (va_cons (val_var rfl) (va_cons (val_ix (val_var rfl) val_c hra rfl) (va_cons (val_ix (val_var rfl) val_c hra rfl) (va_cons (val_ix (val_var rfl) val_c hra rfl) (va_cons (val_ix (val_var rfl) val_c hra rfl) (va_cons (val_ix (val_var rfl) val_c hra rfl) (va_cons (val_ix (val_var rfl) val_c hra rfl) (va_cons (val_ix (val_var rfl) val_c hra rfl) va_nil)))))))) ⟨_, _, _, _, _, _, _, L, net, st, n, hist, rfl, sa, iv, hn, q⟩
theorem ok_answer_call (T : Txt K mg Z) : DefOk P w K mg base 8 "answer_call" ["net", "call", "row"] (spAns Z fun _ => True) := by
  refine T.f_answer_call.ok sc_answer_call (fun vs H Q E h => ?_) (fun f cdv A outer s H vs Q E hr h => ⟨_, (pss_cons (ps_if (pt_cmpR op_lt (pv 1) pe_int (nomark _)) (pss_one (ps_ret (pe_def (ok_answer_first_ten T) hr (pa_cons (pv 0) (pa_cons (pv 1) (pa_cons (pv 2) pa_nil)))))) pss_nil)
      (pss_one (ps_ret (pe_def (ok_answer_last_ten T) hr (pa_cons (pv 0) (pa_cons (pv 1) (pa_cons (pv 2) pa_nil))))))), ?_⟩)
  · obtain ⟨L, net, s, n, hist, p, args, ra, c, rfl, _⟩ := h; rfl
  · obtain ⟨L, net, st, n, hist, p, args, ra, c, rfl, hra, hc, _, sa, iv, hn, q⟩ := h
    have an : Ans (tTest (tOp (rI0 fun i j => .bl (decide (i < j))) (tVar 1) (tC (.int 10)))) [some (.ref net), some (.int p), some (.ref ra)] H (decide (p < 10)) := ans_cmp (val_var rfl) val_c fun Q q => ⟨_, _, rfl, rfl, q⟩
    by_cases e : p < 10
    · refine st_seq (st_y an (decide_eq_true e) ?_)
      exact st_rcall (va_cons (val_var rfl) (va_cons (val_var rfl) (va_cons (val_var rfl) va_nil))) ⟨L, net, st, n, hist, p, args, ra, c, rfl, hra, hc, by show p ≤ 9; omega, sa, iv, hn, q⟩
    · refine st_seq (st_n an (decide_eq_false e) ?_)
      exact st_rcall (va_cons (val_var rfl) (va_cons (val_var rfl) (va_cons (val_var rfl) va_nil))) ⟨L, net, st, n, hist, p, args, ra, c, rfl, hra, hc, by show 10 ≤ p; omega, sa, iv, hn, q⟩
end MN
set_option Elab.async false
set_option maxRecDepth 100000
set_option maxHeartbeats 2000000
set_option linter.unusedVariables false
namespace MN
open PySem PySem.Spec PyProof.Rows L2
open Vbwsah (Input Numbered Known Client State Packet Ring)
variable {P : Program} {w : World} {K : PySem.W.Frag} {mg : Str → Option Value} {base : Heap} {Z : Cs}
/-! ### the list of calls, one behind another -/
def ARGS : List Int := [5, 2, 2, 1, 0, 1, 1, 1, 3, 0, 1, 1, 4, 7, 4, 2, 1, 1, 0, 1]
theorem shape_args {p : Int} {x : Nat × Nat} (h : PyVbwsah.shape p = some x) : ∃ k : Nat, p = (k : Int) ∧ ARGS[k]? = some (x.1 : Int) ∧ x.2 = 0 := by
  unfold PyVbwsah.shape at h
  by_cases e0 : p = 0
  · rw [if_pos e0] at h; cases h; exact ⟨0, e0, rfl, rfl⟩
  rw [if_neg e0] at h
  by_cases e1 : p = 1
  · rw [if_pos e1] at h; cases h; exact ⟨1, e1, rfl, rfl⟩
  rw [if_neg e1] at h
  by_cases e2 : p = 2
  · rw [if_pos e2] at h; cases h; exact ⟨2, e2, rfl, rfl⟩
  rw [if_neg e2] at h
  by_cases e3 : p = 3
  · rw [if_pos e3] at h; cases h; exact ⟨3, e3, rfl, rfl⟩
  rw [if_neg e3] at h
  by_cases e4 : p = 4
  · rw [if_pos e4] at h; cases h; exact ⟨4, e4, rfl, rfl⟩
  rw [if_neg e4] at h
  by_cases e5 : p = 5
  · rw [if_pos e5] at h; cases h; exact ⟨5, e5, rfl, rfl⟩
  rw [if_neg e5] at h
  by_cases e6 : p = 6
  · rw [if_pos e6] at h; cases h; exact ⟨6, e6, rfl, rfl⟩
  rw [if_neg e6] at h
  by_cases e7 : p = 7
  · rw [if_pos e7] at h; cases h; exact ⟨7, e7, rfl, rfl⟩
  rw [if_neg e7] at h
  by_cases e8 : p = 8
  · rw [if_pos e8] at h; cases h; exact ⟨8, e8, rfl, rfl⟩
  rw [if_neg e8] at h
  by_cases e9 : p = 9
  · rw [if_pos e9] at h; cases h; exact ⟨9, e9, rfl, rfl⟩
  rw [if_neg e9] at h
  by_cases e10 : p = 10
  · rw [if_pos e10] at h; cases h; exact ⟨10, e10, rfl, rfl⟩
  rw [if_neg e10] at h
  by_cases e11 : p = 11
  · rw [if_pos e11] at h; cases h; exact ⟨11, e11, rfl, rfl⟩
  rw [if_neg e11] at h
  by_cases e12 : p = 12
  · rw [if_pos e12] at h; cases h; exact ⟨12, e12, rfl, rfl⟩
  rw [if_neg e12] at h
  by_cases e13 : p = 13
  · rw [if_pos e13] at h; cases h; exact ⟨13, e13, rfl, rfl⟩
  rw [if_neg e13] at h
  by_cases e14 : p = 14
  · rw [if_pos e14] at h; cases h; exact ⟨14, e14, rfl, rfl⟩
  rw [if_neg e14] at h
  by_cases e15 : p = 15
  · rw [if_pos e15] at h; cases h; exact ⟨15, e15, rfl, rfl⟩
  rw [if_neg e15] at h
  by_cases e16 : p = 16
  · rw [if_pos e16] at h; cases h; exact ⟨16, e16, rfl, rfl⟩
  rw [if_neg e16] at h
  by_cases e17 : p = 17
  · rw [if_pos e17] at h; cases h; exact ⟨17, e17, rfl, rfl⟩
  rw [if_neg e17] at h
  by_cases e18 : p = 18
  · rw [if_pos e18] at h; cases h; exact ⟨18, e18, rfl, rfl⟩
  rw [if_neg e18] at h
  by_cases e19 : p = 19
  · rw [if_pos e19] at h; cases h; exact ⟨19, e19, rfl, rfl⟩
  rw [if_neg e19] at h
  cases h
theorem flat_one {f : Nat} {p : Int} {r : List Int} {cs : List (List (List Int))} (h : PyFlat.calls PyVbwsah.shape f (p :: r) = some cs) : ∃ (k j : Nat) (f' : Nat) (cs' : List (List (List Int))), p = (j : Int) ∧ ARGS[j]? = some (k : Int) ∧ k ≤ r.length ∧ cs = [p :: r.take k] :: cs' ∧ PyFlat.calls PyVbwsah.shape f' (r.drop k) = some cs' := by
  cases f with
  | zero => simp [PyFlat.calls] at h
  | succ f =>
    rw [PyFlat.calls] at h
    unfold PyFlat.call at h
    dsimp only at h
    cases e : PyVbwsah.shape p with
    | none => rw [e] at h; simp at h
    | some x =>
      obtain ⟨j, ep, ea, e0⟩ := shape_args e
      obtain ⟨k, z⟩ := x
      have e0 : z = 0 := e0
      subst e0
      rw [e] at h
      dsimp only at h
      by_cases c : r.length < k
      · rw [if_pos c] at h; simp at h
      · rw [if_neg c] at h
        dsimp only [PyFlat.rows] at h
        cases e2 : PyFlat.calls PyVbwsah.shape f (r.drop k) with
        | none => rw [e2] at h; simp at h
        | some cs' =>
          rw [e2] at h
          exact ⟨k, j, f, cs', ep, ea, by omega, (Option.some.inj h).symm, e2⟩
theorem whole_id (c : List (List Int)) : PyVbwsah.whole c = c := by
  unfold PyVbwsah.whole
  split <;> rfl
theorem calls_is {ns : List Int} {raw : List (List (List Int))} (h : PyFlat.calls PyVbwsah.shape ns.length ns = some raw) : PyVbwsah.answers ns = PyFlat.told (PyFlat.played VbwsahNeutral.step VbwsahNeutral.start raw) := by
  have e : PyVbwsah.calls ns = some raw := by
    unfold PyVbwsah.calls
    rw [h]
    show some (raw.map PyVbwsah.whole) = _
    rw [List.map_congr_left (fun c _ => whole_id c), List.map_id']
  unfold PyVbwsah.answers
  rw [e]
/-- a call has its numbers -/
theorem callOf_some {j k : Nat} {args : List Int} (h : ARGS[j]? = some (k : Int)) (hl : args.length = k) : ∃ c, Vbwsah.callOf [(j : Int) :: args] = some c := by
  have hj : j < 20 := by
    have := (List.getElem?_eq_some_iff.mp h).1
    exact this
  subst hl
  match j, hj with
  | 0, _ | 13, _ | 12, _ | 14, _ | 8, _ | 1, _ | 2, _ | 15, _ | 3, _ | 5, _ | 6, _ | 7, _ | 10, _ | 11, _ | 16, _ | 17, _ | 19, _ | 4, _ | 9, _ | 18, _ =>
    have h : _ = ((args.length : Nat) : Int) := Option.some.inj h
    match args, h with
    | [], h => first | exact ⟨_, rfl⟩ | exact absurd h (by intro z; simp at z)
    | [_], h => first | exact ⟨_, rfl⟩ | exact absurd h (by intro z; simp at z)
    | [_, _], h => first | exact ⟨_, rfl⟩ | exact absurd h (by intro z; simp at z)
    | [_, _, _], h => first | exact ⟨_, rfl⟩ | exact absurd h (by intro z; simp at z)
    | [_, _, _, _], h => first | exact ⟨_, rfl⟩ | exact absurd h (by intro z; simp at z)
    | [_, _, _, _, _], h => first | exact ⟨_, rfl⟩ | exact absurd h (by intro z; simp at z)
    | [_, _, _, _, _, _], h => first | exact ⟨_, rfl⟩ | exact absurd h (by intro z; simp at z)
    | [_, _, _, _, _, _, _], h => first | exact ⟨_, rfl⟩ | exact absurd h (by intro z; simp at z)
    | _ :: _ :: _ :: _ :: _ :: _ :: _ :: _ :: l, h =>
      simp only [List.length_cons] at h
      omega
end MN
set_option Elab.async false
set_option maxRecDepth 100000
set_option maxHeartbeats 2000000
set_option linter.unusedVariables false
namespace MN
open PySem PySem.Spec PyProof.Rows L2
open Vbwsah (Input Numbered Known Client State Packet Ring)
variable {P : Program} {w : World} {K : PySem.W.Frag} {mg : Str → Option Value} {base : Heap} {Z : Cs}
/-- the list that is told changes: the state stays -/
theorem StA.tell {L : Lb} {H : Hp} {net : Addr} {s : State} {A : Ads} (h : StA Z L H net s A) {C : Addr} (hC : L C = some .told) (o : HO) : StA Z L (upd H C o) net s A := by
  have kp : Keep L (fun x => x = .told) H (upd H C o) := fun a u e n => by
    by_cases z : a = C
    · rw [z] at n; exact absurd rfl (n _ hC)
    · rw [upd_ne z]; exact e
  have ls := LSame.refl H L
  exact ⟨h.l0, h.lw, h.lk, h.lc, h.lp, h.ll, kp.of h.h0 h.l0 (by decide), kp.of h.hw h.lw (by decide), h.rw, kp.of h.hk h.lk (by decide), h.rk.keep kp ls, kp.of h.hc h.lc (by decide), Paired.mapP h.rc fun p q c => c.keep kp ls (by simp) (by simp) (by simp), kp.of h.hp h.lp (by decide), Paired.mapP h.rp fun p q c => c.keep kp ls (by simp) (by simp) (by simp), kp.of h.hl h.ll (by decide),
    Paired.mapP h.rl fun p q c => c.keep kp ls, fun a n z => by
      by_cases e : a = C
      · rw [e, upd_same] at z; cases z
      · rw [upd_ne e] at z; exact h.lin a n z⟩
/-- the labels at the start -/
def lab0 (x wa kd cd pd pl C : Addr) : Lb := fun a => if a = x then some .net else if a = wa then some .world else if a = kd then some .kept else if a = cd then some .clients else if a = pd then some .peers else if a = pl then some .packets else if a = C then some .told else none
theorem sqT_k {p : Addr} {xs : List V} (h : SqT K (fun _ => none) p xs) (H : Hp) : SqT K H p xs := by
  rcases h with h | h
  · rcases h with h | ⟨o, h⟩ <;> cases h
  · exact .inr h
theorem calls_nil {f : Nat} {l : List Int} (h : PyFlat.calls PyVbwsah.shape f l = some []) : l = [] := by
  cases l with
  | nil => rfl
  | cons p r =>
    obtain ⟨k, j, f', cs', _, _, _, e, _⟩ := flat_one h
    cases e
theorem calls_cons {f : Nat} {l : List Int} {c : List (List Int)} {cs : List (List (List Int))} (h : PyFlat.calls PyVbwsah.shape f l = some (c :: cs)) : ∃ p r, l = p :: r := by
  cases l with
  | nil => cases f <;> simp [PyFlat.calls] at h
  | cons p r => exact ⟨p, r, rfl⟩
def spAns1 (K : PySem.W.Frag) : Sp := fun vs H Q _ => ∃ (a : Addr) (ns : List Int), vs = [.ref a] ∧ SqL K H a (ns.map V.int) ∧ ns.length ≤ 30000 ∧ PyVbwsah.answers_asked ns = true ∧
  ∀ (H' : Hp) (p : Addr), H' p = some (.lst ((PyVbwsah.answers ns).map V.int)) → Q (.ref p) H'
/-- what stands at the head of a turn -/
structure Turn (Z : Cs) (H0 : Hp) (a x C : Addr) (ns : List Int) (m : Nat) (σ : L2.St) (H : Hp) (at' f n : Nat) (cs : List (List (List Int))) (s : State) (hist : Nat → Vbwsah.World) (L : Lb) (done : List Int) : Prop where
  em : m = cs.length
  sl : ∃ v4 v5 v6 : Option V, σ = [some (.ref a), some (.ref x), some (.ref C), some (.int (at' : Int)), v4, v5, v6]
  le : at' ≤ ns.length
  cl : PyFlat.calls PyVbwsah.shape f (ns.drop at') = some cs
  st : St Z L H x s
  iv : HInv n s hist
  n3 : n + cs.length ≤ 300
  hC : H C = some (.lst (done.map V.int))
  lC : L C = some .told
  stay : ∀ o, H0 a = some o → H a = some o ∧ L a = none
  sum : done ++ PyFlat.told (PyFlat.played VbwsahNeutral.step s cs) = PyVbwsah.answers ns
theorem ok_answers {f : Addr} {fd : FuncData} (F : Fun K "answers" "answers" s_answers f fd) (T : Txt K mg Z) : FnOk P w K mg base CX0 10 f fd ["calls"] (spAns1 K) := by
  obtain ⟨pA, hA, hAT⟩ := T.c_ARGUMENTS
  have g_ARGUMENTS : GC mg "ARGUMENTS" (.ref pA) := ⟨_, hA, rfl⟩
  refine F.ok sc_answers (fun vs H Q E h => ?_) (fun cdv A outer s H vs Q E hr h => ⟨_, (pss_cons (ps_set (i := 1) sc_answers.nd rfl (Or.inl rfl) (pe_new0 (mk_Net T) hr))
      (pss_cons (ps_set (i := 2) sc_answers.nd rfl (Or.inl rfl) (pe_lst pa_nil))
      (pss_cons (ps_set (i := 3) sc_answers.nd rfl (Or.inl rfl) pe_int)
      (pss_cons (ps_while PassesOwn.never (pt_cmpR op_lt (pv 3) (pe_callB call_len_seq (by rfl) T.n_len (by decide +kernel) (pa_cons (pv 0) pa_nil)) (nomark _)) (pss_cons (ps_set (i := 4) sc_answers.nd rfl (Or.inl rfl) (pe_op op_add (pv 3) pe_int))
      (pss_cons (ps_set (i := 5) sc_answers.nd rfl (Or.inl rfl) (pe_op op_add (pv 4) (pe_ix ix_tup (pe_gc g_ARGUMENTS) (pe_ix ix_list (pv 0) (pv 3) (fun _ _ => rfl)) (fun _ _ => rfl))))
      (pss_cons (ps_set (i := 6) sc_answers.nd rfl (Or.inl rfl) (pe_def (ok_answer_call T) hr (pa_cons (pv 1) (pa_cons (pe_ix ix_list (pv 0) (pv 3) (fun _ _ => rfl)) (pa_cons (pe_slice sl_list (pv 0) (po_some (pv 4)) (po_some (pv 5))) pa_nil)))))
      (pss_cons (ps_expr (pe_bm PySem.F.plainAttrs_list PySem.F.slot_list_append PySem.F.type_list_append mt_append (pv 2) (pa_cons (pe_callB call_len_seq (by rfl) T.n_len (by decide +kernel) (pa_cons (pv 6) pa_nil)) pa_nil)))
      (pss_cons (ps_expr (pe_bm PySem.F.plainAttrs_list PySem.F.slot_list_extend PySem.F.type_list_extend mt_extend (pv 2) (pa_cons (pv 6) pa_nil)))
      (pss_one (ps_set (i := 3) sc_answers.nd rfl (Or.inl rfl) (pv 5)))))))))
      (pss_one (ps_ret (pv 2))))))), ?_⟩)
  · obtain ⟨a, ns, rfl, _⟩ := h; rfl
  · obtain ⟨a, ns, rfl, hS, hlen, hask, q⟩ := h
    obtain ⟨raw, hraw, hr300, hshort⟩ : ∃ raw, PyFlat.calls PyVbwsah.shape ns.length ns = some raw ∧ raw.length ≤ 300 ∧ (PyVbwsah.answers ns).length ≤ 10000000 := by
      unfold PyVbwsah.answers_asked at hask
      cases e : PyFlat.calls PyVbwsah.shape ns.length ns with
      | none => rw [e] at hask; cases hask
      | some raw =>
        rw [e] at hask
        simp only [Bool.and_eq_true] at hask
        exact ⟨raw, rfl, of_decide_eq_true hask.1.1.1.2, of_decide_eq_true hask.2⟩
    have hsum := calls_is hraw
    intro x dx hx hdx nxd
    refine ⟨x, dx, rfl, upd_same, fun H1 wa kd cd pd pl fr f1 f2 f3 f4 f5 nd h1 h2 h3 h4 h5 h6 => ⟨rfl, ?_⟩⟩
    refine ⟨by decide, fun C hC => ?_⟩
    have s0 : Same H (upd (upd H dx (.own x)) x (.ins Z.Net dx [])) := MN.Same.mut (Same.new hdx) hx
    have sH : ∀ b o, H b = some o → H1 b = some o := fun b o e => fr b o (s0 b o e) (ne_of_none e hx)
    simp only [List.nodup_cons, List.mem_cons, List.not_mem_nil, not_or, not_false_eq_true, or_false, List.nodup_nil, and_true] at nd
    obtain ⟨⟨k1, k2, k3, k4⟩, ⟨k5, k6, k7⟩, ⟨k8, k9⟩, k10⟩ := nd
    have x1 : wa ≠ x := ne_of_none' upd_same f1
    have x2 : kd ≠ x := ne_of_none' upd_same f2
    have x3 : cd ≠ x := ne_of_none' upd_same f3
    have x4 : pd ≠ x := ne_of_none' upd_same f4
    have x5 : pl ≠ x := ne_of_none' upd_same f5
    have c0 : C ≠ x := ne_of_none' h1 hC
    have c1 : C ≠ wa := ne_of_none' h2 hC
    have c2 : C ≠ kd := ne_of_none' h3 hC
    have c3 : C ≠ cd := ne_of_none' h4 hC
    have c4 : C ≠ pd := ne_of_none' h5 hC
    have c5 : C ≠ pl := ne_of_none' h6 hC
    have e0 : lab0 x wa kd cd pd pl C x = some .net := by unfold lab0; rw [if_pos rfl]
    have e1 : lab0 x wa kd cd pd pl C wa = some .world := by unfold lab0; rw [if_neg x1, if_pos rfl]
    have e2 : lab0 x wa kd cd pd pl C kd = some .kept := by unfold lab0; rw [if_neg x2, if_neg (Ne.symm k1), if_pos rfl]
    have e3 : lab0 x wa kd cd pd pl C cd = some .clients := by unfold lab0; rw [if_neg x3, if_neg (Ne.symm k2), if_neg (Ne.symm k5), if_pos rfl]
    have e4 : lab0 x wa kd cd pd pl C pd = some .peers := by unfold lab0; rw [if_neg x4, if_neg (Ne.symm k3), if_neg (Ne.symm k6), if_neg (Ne.symm k8), if_pos rfl]
    have e5 : lab0 x wa kd cd pd pl C pl = some .packets := by unfold lab0; rw [if_neg x5, if_neg (Ne.symm k4), if_neg (Ne.symm k7), if_neg (Ne.symm k9), if_neg (Ne.symm k10), if_pos rfl]
    have e6 : lab0 x wa kd cd pd pl C C = some .told := by unfold lab0; rw [if_neg c0, if_neg c1, if_neg c2, if_neg c3, if_neg c4, if_neg c5, if_pos rfl]
    have sC : Same H1 (upd H1 C (.lst [])) := Same.new hC
    have st0 : StA Z (lab0 x wa kd cd pd pl C) (upd H1 C (.lst [])) x Vbwsah.start ⟨dx, wa, kd, cd, pd, pl, [], [], [], [], []⟩ := by
      refine ⟨e0, e1, e2, e3, e4, e5, sC _ _ h1, sC _ _ h2, RepW.nil, sC _ _ h3, .nil, sC _ _ h4, .nil, sC _ _ h5, .nil, sC _ _ h6, .nil, fun b n z => ?_⟩
      unfold lab0 at n
      by_cases y0 : b = x
      · rw [y0, sC _ _ h1] at z; cases z
      by_cases y1 : b = wa
      · rw [y1, sC _ _ h2] at z; cases z
      by_cases y2 : b = kd
      · rw [y2, sC _ _ h3] at z; cases z
      by_cases y3 : b = cd
      · rw [y3, sC _ _ h4] at z; cases z
      by_cases y4 : b = pd
      · rw [y4, sC _ _ h5] at z; cases z
      by_cases y5 : b = pl
      · rw [y5, sC _ _ h6] at z; cases z
      by_cases y6 : b = C
      · rw [y6, upd_same] at z; cases z
      rw [if_neg y0, if_neg y1, if_neg y2, if_neg y3, if_neg y4, if_neg y5, if_neg y6] at n
      exact n rfl
    have stay0 : ∀ o, H a = some o → upd H1 C (.lst []) a = some o ∧ lab0 x wa kd cd pd pl C a = none := fun o e => by
      have ea := sH _ _ e
      refine ⟨sC _ _ ea, ?_⟩
      unfold lab0
      rw [if_neg (ne_of_none e hx), if_neg (ne_of_none (s0 _ _ e) f1), if_neg (ne_of_none (s0 _ _ e) f2), if_neg (ne_of_none (s0 _ _ e) f3), if_neg (ne_of_none (s0 _ _ e) f4), if_neg (ne_of_none (s0 _ _ e) f5), if_neg (ne_of_none ea hC)]
    refine ⟨fun m σ H' => ∃ at' f n cs s hist L done, Turn Z H a x C ns m σ H' at' f n cs s hist L done, ⟨raw.length, 0, ns.length, 0, raw, Vbwsah.start, _, _, [], ⟨rfl, ⟨none, none, none, rfl⟩, Nat.zero_le _, hraw, ⟨_, st0⟩, start_inv, by omega, upd_same, e6, stay0, hsum.symm⟩⟩, ?_⟩
    rintro m σ H' ⟨at', f', n, cs, st, hist, L, done, tn⟩
    obtain ⟨v4, v5, v6, rfl⟩ := tn.sl
    have hS' : SqL K H' a (ns.map V.int) := by
      rcases hS with (h | ⟨o, h⟩) | h
      · exact .inl (.inl (tn.stay _ h).1)
      · exact .inl (.inr ⟨o, (tn.stay _ h).1⟩)
      · exact .inr h
    refine ⟨_, rfl, _, rfl, a, _, rfl, .inl hS', _, _, rfl, rfl, _, rfl, ?_⟩
    rw [List.length_map]
    cases cs with
    | nil =>
      have e := calls_nil tn.cl
      have hl : ns.length ≤ at' := List.drop_eq_nil_iff.mp e
      rw [decide_eq_false (by omega)]
      refine iteF ⟨_, rfl, q H' C ?_⟩
      have := tn.sum
      rw [show PyFlat.told (PyFlat.played VbwsahNeutral.step st []) = [] from rfl, List.append_nil] at this
      rw [← this]; exact tn.hC
    | cons c cs' =>
      obtain ⟨p, r, er⟩ := calls_cons tn.cl
      have hcl := tn.cl
      rw [er] at hcl
      obtain ⟨k, j, f2, cs2, ep, ea, hk, ec, hcl2⟩ := flat_one hcl
      cases ec
      have hat : at' < ns.length := by
        rcases Nat.lt_or_ge at' ns.length with z | z
        · exact z
        · rw [List.drop_eq_nil_iff.mpr z] at er; cases er
      rw [decide_eq_true (by omega)]
      refine iteT ⟨_, fun _ _ h => h, ?_⟩
      rw [List.drop_eq_getElem_cons hat] at er
      obtain ⟨ep0, er0⟩ := List.cons.inj er
      have hj : j < 20 := (List.getElem?_eq_some_iff.mp ea).1
      have hat' : atI (ns.map V.int) (at' : Int) = some (.int p) := atI_nat (by rw [List.getElem?_map, List.getElem?_eq_getElem hat, ep0]; rfl)
      have hargs : atI [V.int 5, .int 2, .int 2, .int 1, .int 0, .int 1, .int 1, .int 1, .int 3, .int 0, .int 1, .int 1, .int 4, .int 7, .int 4, .int 2, .int 1, .int 1, .int 0, .int 1] p = some (.int (k : Int)) := by
        rw [ep]
        refine atI_nat ?_
        match j, hj, ea with
        | 0, _, ea | 1, _, ea | 2, _, ea | 3, _, ea | 4, _, ea | 5, _, ea | 6, _, ea | 7, _, ea | 8, _, ea | 9, _, ea | 10, _, ea | 11, _, ea | 12, _, ea | 13, _, ea | 14, _, ea | 15, _, ea | 16, _, ea | 17, _, ea | 18, _, ea | 19, _, ea => exact congrArg (Option.map V.int) ea
      have vat : ∀ {σ : L2.St}, σ[0]? = some (some (.ref a)) → σ[3]? = some (some (.int (at' : Int))) → Val (tOp (rIxL K) (tVar 0) (tVar 3)) σ H' (.int p) := fun {σ} h0 h3 => val_op (val_var h0) (val_var h3) fun Q q => ⟨a, _, _, _, rfl, rfl, hS', hat', q⟩
      refine st_seq (st_set (val_op (val_var rfl) val_c fun Q q => ⟨_, _, rfl, rfl, q⟩) ?_)
      refine st_seq (st_set (val_op (val_var rfl) (val_op val_c (vat rfl rfl) fun Q q => ⟨pA, _, _, _, rfl, rfl, sqT_k hAT H', hargs, q⟩) fun Q q => ⟨_, _, rfl, rfl, q⟩) ?_)
      refine ⟨_, rfl, vat rfl rfl _ ⟨_, rfl, _, rfl, _, rfl, _, rfl, _, rfl, a, _, rfl, hS', fun ra hra => ?_⟩⟩
      have ecut : cutV (ns.map V.int) (some ((at' : Int) + 1)) (some ((at' : Int) + 1 + (k : Int))) = (r.take k).map V.int := by
        unfold cutV
        have i1 : (at' : Int) + 1 = ((at' + 1 : Nat) : Int) := by omega
        have i2 : ((at' + 1 : Nat) : Int) + (k : Int) = ((at' + 1 + k : Nat) : Int) := by omega
        have hrl : r.length = ns.length - (at' + 1) := by rw [← er0, List.length_drop]
        rw [i1, i2, HT.sIx_nat, HT.sIx_nat, List.length_map, Nat.min_eq_left (by omega), Nat.min_eq_left (by omega), ← List.map_drop, ← List.map_take, er0]
        congr 2
        omega
      have ecut' : cutV (ns.map V.int) (some ((at' : Int) + 1)) (some ((at' : Int) + 1 + (k : Int))) = (r.take k).map V.int := ecut
      obtain ⟨cc, hcc⟩ := callOf_some (args := r.take k) ea (by rw [List.length_take]; omega)
      rw [← ep] at hcc
      have sR : Same H' (upd H' ra (.lst (cutV (ns.map V.int) (some ((at' : Int) + 1)) (some ((at' : Int) + 1 + (k : Int)))))) := Same.new hra
      obtain ⟨A, sa⟩ := tn.st
      have n3 := tn.n3
      rw [List.length_cons] at n3
      have hstep : VbwsahNeutral.step st [p :: r.take k] = Vbwsah.step st cc := by
        unfold VbwsahNeutral.step
        rw [hcc]
      have hsum' := tn.sum
      rw [PyFlat.played, hstep] at hsum'
      have hsum2 : done ++ (((Vbwsah.step st cc).2.length : Int) :: (Vbwsah.step st cc).2) ++ PyFlat.told (PyFlat.played VbwsahNeutral.step (Vbwsah.step st cc).1 cs') = PyVbwsah.answers ns := by
        rw [← hsum', List.append_assoc]; rfl
      have hlen2 : (done ++ (((Vbwsah.step st cc).2.length : Int) :: (Vbwsah.step st cc).2)).length ≤ 10000000 := by
        refine Nat.le_trans ?_ hshort
        rw [← hsum2, List.length_append (as := done ++ _)]
        omega
      rw [List.length_append, List.length_cons] at hlen2
      refine ⟨L, x, st, n, hist, p, r.take k, ra, cc, rfl, by rw [upd_same, ecut], hcc, trivial, ⟨A, sa.same sR⟩, tn.iv, by omega, fun H3 L3 q0 st3 kp ls hq hq' => ?_⟩
      obtain ⟨A3, sa3⟩ := st3
      have hCR := sR _ _ tn.hC
      have lC3 : L3 C = some .told := by rw [ls _ _ hCR]; exact tn.lC
      have hC3 : H3 C = some (.lst (done.map V.int)) := kp.of hCR tn.lC (by intro z; exact z rfl)
      have nq : q0 ≠ C := ne_of_none' hCR hq
      refine ⟨_, rfl, .inl ⟨rfl, _, SqL.of hC3⟩, _, rfl, q0, _, rfl, .inl (SqL.of hq'), C, _, _, rfl, rfl, hC3, ?_, ?_⟩
      · rw [List.length_map]
        exact Nat.lt_of_lt_of_le (show done.length < 10000001 by omega) (by decide)
      rw [List.length_map]
      refine ⟨_, rfl, .inl ⟨rfl, _, SqL.of upd_same⟩, _, rfl, C, q0, _, _, rfl, rfl, upd_same, by rw [upd_ne nq]; exact hq', ?_, ?_⟩
      · rw [List.length_append, List.length_map, List.length_map]
        exact Nat.le_trans (show done.length + 1 + _ ≤ 10000001 by omega) (by decide)
      rw [upd_upd]
      obtain ⟨hist3, iv3⟩ := inv_step tn.iv cc
      refine ⟨_, rfl, cs'.length, ?_, at' + 1 + k, f2, n + 1, cs', (Vbwsah.step st cc).1, hist3, L3, done ++ (((Vbwsah.step st cc).2.length : Int) :: (Vbwsah.step st cc).2), rfl, ⟨_, _, _, rfl⟩, ?_, ?_, ⟨A3, sa3.tell lC3 _⟩, iv3, by omega, ?_, lC3, fun o e => ?_, hsum2⟩
      · rw [tn.em, List.length_cons]; omega
      · have hrl : r.length = ns.length - (at' + 1) := by rw [← er0, List.length_drop]
        omega
      · rw [← List.drop_drop, er0]; exact hcl2
      · rw [upd_same]
        simp
      · obtain ⟨g1, g2⟩ := tn.stay o e
        have g3 := sR _ _ g1
        have naC : a ≠ C := un_ne g2 tn.lC
        exact ⟨by rw [upd_ne naC]; exact kp.un g3 g2, by rw [ls _ _ g3]; exact g2⟩
end MN
set_option Elab.async false
set_option maxRecDepth 100000
set_option maxHeartbeats 4000000
set_option linter.unusedVariables false
namespace MN
open PySem PySem.Spec PyProof.Rows L2
def BindsF (x qual : Str) (st : Stmt) (ps : List Str) : Prop := ∀ (kV doc pm : Value) (an : Option Addr) (cdv ct : Value) (us : List Value), us.length = ps.length → bindArgs (PySem.W.fnOf x qual (defArgs st) (defBody st) (defScope st) .none kV doc pm an cdv ct) ⟨us, []⟩ = pure (ps.zip us)
section
variable {K : PySem.W.Frag} {mg : Str → Option Value}
/-- a def without defaults -/
theorem fun_of {x qual : Str} {st : Stmt} {f : Addr} {fd : FuncData} (F : FunD K x qual (defArgs st) (defBody st) (defScope st) [] [] f fd) : Fun K x qual st f fd := by
  obtain ⟨⟨oc, od, dV, kV, doc, pm, an, cdv, ct, osl, e, lk, hc, hd, _⟩, kp⟩ := F
  rcases hd with ⟨_, z⟩ | ⟨z, _⟩
  · subst z
    exact ⟨⟨oc, od, kV, doc, pm, an, cdv, ct, osl, e, lk, hc⟩, kp⟩
  · exact absurd rfl z
theorem hasF_of {x : Str} {st : Stmt} {ps : List Str} {f : Addr} (F : ∃ fd, FunD K x x (defArgs st) (defBody st) (defScope st) [] [] f fd) (g : mg x = some (.ref f)) (b : BindsF x x st ps) : HasF K mg x st ps := by
  obtain ⟨fd, F⟩ := F
  exact ⟨f, fd, fun_of F, g, (fun_of F).binds b⟩
theorem hasM_of {C f : Addr} {m qual : Str} {st : Stmt} {ps : List Str} (F : ∃ fd, FunD K m qual (defArgs st) (defBody st) (defScope st) [] [] f fd) (q : Meth K C m f) (b : BindsF m qual st ps) : HasM K C m qual st ps := by
  obtain ⟨fd, F⟩ := F
  exact ⟨f, fd, fun_of F, q, (fun_of F).binds b⟩
theorem hasC_of {C f : Addr} {x qual : Str} {st : Stmt} {ps : List Str} (F : ∃ fd, FunD K "__init__" qual (defArgs st) (defBody st) (defScope st) [] [] f fd) (g : mg x = some (.ref C)) (q : Mk K C f) (b : BindsF "__init__" qual st ps) : HasC K mg C x qual st ps := by
  obtain ⟨fd, F⟩ := F
  exact ⟨f, fd, fun_of F, g, q, (fun_of F).binds b⟩
theorem gc_of {x : Str} {i : Int} (h : ∃ t, mg x = some (.int i t)) : GC mg x (.int i) := by
  obtain ⟨t, e⟩ := h
  exact ⟨_, e, t, rfl⟩
end
theorem bd_is_time : BindsF "is_time" "is_time" s_is_time ["n", "d"] := fun _ _ _ _ _ _ us hl => match us, hl with | [_, _], _ => rfl
theorem bd_Between___init__ : BindsF "__init__" "Between.__init__" s_Between___init__ ["self", "worlds", "t1", "t2", "n", "d"] := fun _ _ _ _ _ _ us hl => match us, hl with | [_, _, _, _, _, _], _ => rfl
theorem bd_Between_upper_number : BindsF "upper_number" "Between.upper_number" s_Between_upper_number ["self", "key"] := fun _ _ _ _ _ _ us hl => match us, hl with | [_, _], _ => rfl
theorem bd_shown_value : BindsF "shown_value" "shown_value" s_shown_value ["worlds", "key", "n", "d"] := fun _ _ _ _ _ _ us hl => match us, hl with | [_, _, _, _], _ => rfl
theorem bd_value_in_first : BindsF "value_in_first" "value_in_first" s_value_in_first ["worlds", "ticks", "key"] := fun _ _ _ _ _ _ us hl => match us, hl with | [_, _, _], _ => rfl
theorem bd_value_between : BindsF "value_between" "value_between" s_value_between ["worlds", "t1", "t2", "key", "n", "d"] := fun _ _ _ _ _ _ us hl => match us, hl with | [_, _, _, _, _, _], _ => rfl
theorem bd_is_body_number : BindsF "is_body_number" "is_body_number" s_is_body_number ["number"] := fun _ _ _ _ _ _ us hl => match us, hl with | [_], _ => rfl
theorem bd_is_body_key : BindsF "is_body_key" "is_body_key" s_is_body_key ["key"] := fun _ _ _ _ _ _ us hl => match us, hl with | [_], _ => rfl
theorem bd_body_of_key : BindsF "body_of_key" "body_of_key" s_body_of_key ["key"] := fun _ _ _ _ _ _ us hl => match us, hl with | [_], _ => rfl
theorem bd_is_place : BindsF "is_place" "is_place" s_is_place ["value"] := fun _ _ _ _ _ _ us hl => match us, hl with | [_], _ => rfl
theorem bd_is_speed : BindsF "is_speed" "is_speed" s_is_speed ["value"] := fun _ _ _ _ _ _ us hl => match us, hl with | [_], _ => rfl
theorem bd_is_push : BindsF "is_push" "is_push" s_is_push ["value"] := fun _ _ _ _ _ _ us hl => match us, hl with | [_], _ => rfl
theorem bd_fits_body_key : BindsF "fits_body_key" "fits_body_key" s_fits_body_key ["key", "value"] := fun _ _ _ _ _ _ us hl => match us, hl with | [_, _], _ => rfl
theorem bd_followed_key : BindsF "followed_key" "followed_key" s_followed_key ["body"] := fun _ _ _ _ _ _ us hl => match us, hl with | [_], _ => rfl
theorem bd_has_body : BindsF "has_body" "has_body" s_has_body ["world", "body"] := fun _ _ _ _ _ _ us hl => match us, hl with | [_, _], _ => rfl
theorem bd_put_body : BindsF "put_body" "put_body" s_put_body ["world", "body", "x", "y", "vx", "vy"] := fun _ _ _ _ _ _ us hl => match us, hl with | [_, _, _, _, _, _], _ => rfl
theorem bd_body_values : BindsF "body_values" "body_values" s_body_values ["world", "body"] := fun _ _ _ _ _ _ us hl => match us, hl with | [_, _], _ => rfl
theorem bd_follow_axis : BindsF "follow_axis" "follow_axis" s_follow_axis ["world", "place_key", "push"] := fun _ _ _ _ _ _ us hl => match us, hl with | [_, _, _], _ => rfl
theorem bd_follow : BindsF "follow" "follow" s_follow ["world", "body", "ax", "ay"] := fun _ _ _ _ _ _ us hl => match us, hl with | [_, _, _, _], _ => rfl
theorem bd_greatest_divisor : BindsF "greatest_divisor" "greatest_divisor" s_greatest_divisor ["one", "other"] := fun _ _ _ _ _ _ us hl => match us, hl with | [_, _], _ => rfl
theorem bd_least_terms : BindsF "least_terms" "least_terms" s_least_terms ["upper", "lower"] := fun _ _ _ _ _ _ us hl => match us, hl with | [_, _], _ => rfl
theorem bd_is_clock_time : BindsF "is_clock_time" "is_clock_time" s_is_clock_time ["time"] := fun _ _ _ _ _ _ us hl => match us, hl with | [_], _ => rfl
theorem bd_is_drift : BindsF "is_drift" "is_drift" s_is_drift ["drift"] := fun _ _ _ _ _ _ us hl => match us, hl with | [_], _ => rfl
theorem bd_Bounds___init__ : BindsF "__init__" "Bounds.__init__" s_Bounds___init__ ["self", "time", "lo", "hi"] := fun _ _ _ _ _ _ us hl => match us, hl with | [_, _, _, _], _ => rfl
theorem bd_Bounds_later : BindsF "later" "Bounds.later" s_Bounds_later ["self", "time", "drift"] := fun _ _ _ _ _ _ us hl => match us, hl with | [_, _, _], _ => rfl
theorem bd_Bounds_told : BindsF "told" "Bounds.told" s_Bounds_told ["self"] := fun _ _ _ _ _ _ us hl => match us, hl with | [_], _ => rfl
theorem bd_bounds_of_exchange : BindsF "bounds_of_exchange" "bounds_of_exchange" s_bounds_of_exchange ["a", "s", "b", "drift"] := fun _ _ _ _ _ _ us hl => match us, hl with | [_, _, _, _], _ => rfl
theorem bd_both_together : BindsF "both_together" "both_together" s_both_together ["old", "new"] := fun _ _ _ _ _ _ us hl => match us, hl with | [_, _], _ => rfl
theorem bd_Down___init__ : BindsF "__init__" "Down.__init__" s_Down___init__ ["self", "client", "tick", "base", "changes"] := fun _ _ _ _ _ _ us hl => match us, hl with | [_, _, _, _, _], _ => rfl
theorem bd_Up___init__ : BindsF "__init__" "Up.__init__" s_Up___init__ ["self", "client", "tick", "inputs"] := fun _ _ _ _ _ _ us hl => match us, hl with | [_, _, _, _], _ => rfl
theorem bd_changes_between : BindsF "changes_between" "changes_between" s_changes_between ["before", "after"] := fun _ _ _ _ _ _ us hl => match us, hl with | [_, _], _ => rfl
theorem bd_put_changes : BindsF "put_changes" "put_changes" s_put_changes ["base", "changes"] := fun _ _ _ _ _ _ us hl => match us, hl with | [_, _], _ => rfl
theorem bd_listed : BindsF "listed" "listed" s_listed ["world"] := fun _ _ _ _ _ _ us hl => match us, hl with | [_], _ => rfl
theorem bd_keep_world : BindsF "keep_world" "keep_world" s_keep_world ["worlds", "tick", "world", "most"] := fun _ _ _ _ _ _ us hl => match us, hl with | [_, _, _, _], _ => rfl
theorem bd_Client___init__ : BindsF "__init__" "Client.__init__" s_Client___init__ ["self", "number", "body"] := fun _ _ _ _ _ _ us hl => match us, hl with | [_, _, _], _ => rfl
theorem bd_Client_is_full : BindsF "is_full" "Client.is_full" s_Client_is_full ["self"] := fun _ _ _ _ _ _ us hl => match us, hl with | [_], _ => rfl
theorem bd_Client_make_input : BindsF "make_input" "Client.make_input" s_Client_make_input ["self", "ax", "ay"] := fun _ _ _ _ _ _ us hl => match us, hl with | [_, _, _], _ => rfl
theorem bd_Client_make_up : BindsF "make_up" "Client.make_up" s_Client_make_up ["self"] := fun _ _ _ _ _ _ us hl => match us, hl with | [_], _ => rfl
theorem bd_Client_take_down : BindsF "take_down" "Client.take_down" s_Client_take_down ["self", "packet"] := fun _ _ _ _ _ _ us hl => match us, hl with | [_, _], _ => rfl
theorem bd_Client_world_of : BindsF "world_of" "Client.world_of" s_Client_world_of ["self", "tick"] := fun _ _ _ _ _ _ us hl => match us, hl with | [_, _], _ => rfl
theorem bd_Client_last_world : BindsF "last_world" "Client.last_world" s_Client_last_world ["self"] := fun _ _ _ _ _ _ us hl => match us, hl with | [_], _ => rfl
theorem bd_Client_guess : BindsF "guess" "Client.guess" s_Client_guess ["self"] := fun _ _ _ _ _ _ us hl => match us, hl with | [_], _ => rfl
theorem bd_Client_knows_later_than : BindsF "knows_later_than" "Client.knows_later_than" s_Client_knows_later_than ["self", "time"] := fun _ _ _ _ _ _ us hl => match us, hl with | [_, _], _ => rfl
theorem bd_Client_learn_bounds : BindsF "learn_bounds" "Client.learn_bounds" s_Client_learn_bounds ["self", "new", "drift"] := fun _ _ _ _ _ _ us hl => match us, hl with | [_, _, _], _ => rfl
theorem bd_Client_forget_inputs : BindsF "forget_inputs" "Client.forget_inputs" s_Client_forget_inputs ["self", "followed"] := fun _ _ _ _ _ _ us hl => match us, hl with | [_, _], _ => rfl
theorem bd_Peer___init__ : BindsF "__init__" "Peer.__init__" s_Peer___init__ ["self", "number", "body"] := fun _ _ _ _ _ _ us hl => match us, hl with | [_, _, _], _ => rfl
theorem bd_Peer_make_down : BindsF "make_down" "Peer.make_down" s_Peer_make_down ["self", "tick", "world"] := fun _ _ _ _ _ _ us hl => match us, hl with | [_, _, _], _ => rfl
theorem bd_Peer_choose_base : BindsF "choose_base" "Peer.choose_base" s_Peer_choose_base ["self"] := fun _ _ _ _ _ _ us hl => match us, hl with | [_], _ => rfl
theorem bd_Peer_take_up : BindsF "take_up" "Peer.take_up" s_Peer_take_up ["self", "packet", "followed"] := fun _ _ _ _ _ _ us hl => match us, hl with | [_, _, _], _ => rfl
theorem bd_Peer_follow_waiting : BindsF "follow_waiting" "Peer.follow_waiting" s_Peer_follow_waiting ["self", "world"] := fun _ _ _ _ _ _ us hl => match us, hl with | [_, _], _ => rfl
theorem bd_Net___init__ : BindsF "__init__" "Net.__init__" s_Net___init__ ["self"] := fun _ _ _ _ _ _ us hl => match us, hl with | [_], _ => rfl
theorem bd_Net_clients_full : BindsF "clients_full" "Net.clients_full" s_Net_clients_full ["self"] := fun _ _ _ _ _ _ us hl => match us, hl with | [_], _ => rfl
theorem bd_Net_packets_full : BindsF "packets_full" "Net.packets_full" s_Net_packets_full ["self"] := fun _ _ _ _ _ _ us hl => match us, hl with | [_], _ => rfl
theorem bd_Net_body_is_taken : BindsF "body_is_taken" "Net.body_is_taken" s_Net_body_is_taken ["self", "body"] := fun _ _ _ _ _ _ us hl => match us, hl with | [_, _], _ => rfl
theorem bd_Net_some_clock_is_known : BindsF "some_clock_is_known" "Net.some_clock_is_known" s_Net_some_clock_is_known ["self"] := fun _ _ _ _ _ _ us hl => match us, hl with | [_], _ => rfl
theorem bd_Net_add_client : BindsF "add_client" "Net.add_client" s_Net_add_client ["self", "number", "body"] := fun _ _ _ _ _ _ us hl => match us, hl with | [_, _, _], _ => rfl
theorem bd_Net_followed_by : BindsF "followed_by" "Net.followed_by" s_Net_followed_by ["self", "number"] := fun _ _ _ _ _ _ us hl => match us, hl with | [_, _], _ => rfl
theorem bd_Net_advance : BindsF "advance" "Net.advance" s_Net_advance ["self"] := fun _ _ _ _ _ _ us hl => match us, hl with | [_], _ => rfl
theorem bd_Net_add_packet : BindsF "add_packet" "Net.add_packet" s_Net_add_packet ["self", "packet"] := fun _ _ _ _ _ _ us hl => match us, hl with | [_, _], _ => rfl
theorem bd_is_direction : BindsF "is_direction" "is_direction" s_is_direction ["dx", "dy"] := fun _ _ _ _ _ _ us hl => match us, hl with | [_, _], _ => rfl
theorem bd_Shot___init__ : BindsF "__init__" "Shot.__init__" s_Shot___init__ ["self", "x", "y", "dx", "dy"] := fun _ _ _ _ _ _ us hl => match us, hl with | [_, _, _, _, _], _ => rfl
theorem bd_Shot_way_to : BindsF "way_to" "Shot.way_to" s_Shot_way_to ["self", "upper_x", "upper_y", "lower"] := fun _ _ _ _ _ _ us hl => match us, hl with | [_, _, _, _], _ => rfl
theorem bd_Shot_meets : BindsF "meets" "Shot.meets" s_Shot_meets ["self", "between", "own"] := fun _ _ _ _ _ _ us hl => match us, hl with | [_, _, _], _ => rfl
theorem bd_tell_base : BindsF "tell_base" "tell_base" s_tell_base ["net", "number"] := fun _ _ _ _ _ _ us hl => match us, hl with | [_, _], _ => rfl
theorem bd_tell_guess : BindsF "tell_guess" "tell_guess" s_tell_guess ["net", "number"] := fun _ _ _ _ _ _ us hl => match us, hl with | [_, _], _ => rfl
theorem bd_render : BindsF "render" "render" s_render ["net", "number", "key", "n", "d"] := fun _ _ _ _ _ _ us hl => match us, hl with | [_, _, _, _, _], _ => rfl
theorem bd_are_ticks_around : BindsF "are_ticks_around" "are_ticks_around" s_are_ticks_around ["t1", "t2", "n", "d"] := fun _ _ _ _ _ _ us hl => match us, hl with | [_, _, _, _], _ => rfl
theorem bd_judge_shot : BindsF "judge_shot" "judge_shot" s_judge_shot ["net", "number", "dx", "dy", "t1", "t2", "n", "d"] := fun _ _ _ _ _ _ us hl => match us, hl with | [_, _, _, _, _, _, _, _], _ => rfl
theorem bd_tell_ring : BindsF "tell_ring" "tell_ring" s_tell_ring ["net", "number"] := fun _ _ _ _ _ _ us hl => match us, hl with | [_, _], _ => rfl
theorem bd_exchange : BindsF "exchange" "exchange" s_exchange ["net", "number", "a", "s", "b"] := fun _ _ _ _ _ _ us hl => match us, hl with | [_, _, _, _, _], _ => rfl
theorem bd_tell_offset : BindsF "tell_offset" "tell_offset" s_tell_offset ["net", "number", "time"] := fun _ _ _ _ _ _ us hl => match us, hl with | [_, _, _], _ => rfl
theorem bd_set_drift : BindsF "set_drift" "set_drift" s_set_drift ["net", "drift"] := fun _ _ _ _ _ _ us hl => match us, hl with | [_, _], _ => rfl
theorem bd_send_down : BindsF "send_down" "send_down" s_send_down ["net", "number"] := fun _ _ _ _ _ _ us hl => match us, hl with | [_, _], _ => rfl
theorem bd_send_up : BindsF "send_up" "send_up" s_send_up ["net", "number"] := fun _ _ _ _ _ _ us hl => match us, hl with | [_, _], _ => rfl
theorem bd_deliver : BindsF "deliver" "deliver" s_deliver ["net", "place"] := fun _ _ _ _ _ _ us hl => match us, hl with | [_, _], _ => rfl
theorem bd_add_input : BindsF "add_input" "add_input" s_add_input ["net", "number", "ax", "ay"] := fun _ _ _ _ _ _ us hl => match us, hl with | [_, _, _, _], _ => rfl
theorem bd_tell_packet : BindsF "tell_packet" "tell_packet" s_tell_packet ["net", "place"] := fun _ _ _ _ _ _ us hl => match us, hl with | [_, _], _ => rfl
theorem bd_told_down : BindsF "told_down" "told_down" s_told_down ["packet"] := fun _ _ _ _ _ _ us hl => match us, hl with | [_], _ => rfl
theorem bd_told_value : BindsF "told_value" "told_value" s_told_value ["value"] := fun _ _ _ _ _ _ us hl => match us, hl with | [_], _ => rfl
theorem bd_told_up : BindsF "told_up" "told_up" s_told_up ["packet"] := fun _ _ _ _ _ _ us hl => match us, hl with | [_], _ => rfl
theorem bd_is_free_key : BindsF "is_free_key" "is_free_key" s_is_free_key ["key"] := fun _ _ _ _ _ _ us hl => match us, hl with | [_], _ => rfl
theorem bd_make_body : BindsF "make_body" "make_body" s_make_body ["net", "body", "x", "y", "vx", "vy"] := fun _ _ _ _ _ _ us hl => match us, hl with | [_, _, _, _, _, _], _ => rfl
theorem bd_make_client : BindsF "make_client" "make_client" s_make_client ["net", "number", "body"] := fun _ _ _ _ _ _ us hl => match us, hl with | [_, _, _], _ => rfl
theorem bd_set_key : BindsF "set_key" "set_key" s_set_key ["net", "key", "value"] := fun _ _ _ _ _ _ us hl => match us, hl with | [_, _, _], _ => rfl
theorem bd_unset_key : BindsF "unset_key" "unset_key" s_unset_key ["net", "key"] := fun _ _ _ _ _ _ us hl => match us, hl with | [_, _], _ => rfl
theorem bd_run_tick : BindsF "run_tick" "run_tick" s_run_tick ["net"] := fun _ _ _ _ _ _ us hl => match us, hl with | [_], _ => rfl
theorem bd_tell_world : BindsF "tell_world" "tell_world" s_tell_world ["net"] := fun _ _ _ _ _ _ us hl => match us, hl with | [_], _ => rfl
theorem bd_tell_counts : BindsF "tell_counts" "tell_counts" s_tell_counts ["net"] := fun _ _ _ _ _ _ us hl => match us, hl with | [_], _ => rfl
theorem bd_answer_call : BindsF "answer_call" "answer_call" s_answer_call ["net", "call", "row"] := fun _ _ _ _ _ _ us hl => match us, hl with | [_, _, _], _ => rfl
theorem bd_answer_first_ten : BindsF "answer_first_ten" "answer_first_ten" s_answer_first_ten ["net", "call", "row"] := fun _ _ _ _ _ _ us hl => match us, hl with | [_, _, _], _ => rfl
theorem bd_answer_last_ten : BindsF "answer_last_ten" "answer_last_ten" s_answer_last_ten ["net", "call", "row"] := fun _ _ _ _ _ _ us hl => match us, hl with | [_, _, _], _ => rfl
theorem bd_answers : BindsF "answers" "answers" s_answers ["calls"] := fun _ _ _ _ _ _ us hl => match us, hl with | [_], _ => rfl
theorem txt_of {K : PySem.W.Frag} {h : Heap} {mg : Str → Option Value} (X : K.In h) (G : h.Ns mainGlobals mg) (c1 : He.SaysD fas1 dfs1 K) (c2 : He.SaysD fas2 dfs2 K) (hex : exs K = true) :
    Txt K mg ⟨He.ga K "Between", He.ga K "Bounds", He.ga K "Down", He.ga K "Up", He.ga K "Client", He.ga K "Peer", He.ga K "Net", He.ga K "Shot"⟩ := by
  obtain ⟨x0, r0⟩ := He.ba hex
  obtain ⟨x1, r1⟩ := He.ba r0
  obtain ⟨x2, r2⟩ := He.ba r1
  obtain ⟨x3, r3⟩ := He.ba r2
  obtain ⟨x4, r4⟩ := He.ba r3
  obtain ⟨x5, r5⟩ := He.ba r4
  obtain ⟨x6, r6⟩ := He.ba r5
  obtain ⟨x7, r7⟩ := He.ba r6
  exact {
    c_GREATEST_UPPER := gc_of (He.int_ok X G (c1.fact 0 (f := .int "GREATEST_UPPER" (1000000)) rfl))
    c_GREATEST_LOWER := gc_of (He.int_ok X G (c1.fact 1 (f := .int "GREATEST_LOWER" (1000)) rfl))
    c_MOST_TICKS_BEYOND := gc_of (He.int_ok X G (c1.fact 2 (f := .int "MOST_TICKS_BEYOND" (3)) rfl))
    c_BODIES := gc_of (He.int_ok X G (c1.fact 3 (f := .int "BODIES" (8)) rfl))
    c_KEYS_OF_A_BODY := gc_of (He.int_ok X G (c1.fact 4 (f := .int "KEYS_OF_A_BODY" (4)) rfl))
    c_FIRST_FOLLOWED_KEY := gc_of (He.int_ok X G (c1.fact 5 (f := .int "FIRST_FOLLOWED_KEY" (1000)) rfl))
    c_FURTHEST := gc_of (He.int_ok X G (c1.fact 6 (f := .int "FURTHEST" (1000)) rfl))
    c_FASTEST := gc_of (He.int_ok X G (c1.fact 7 (f := .int "FASTEST" (20)) rfl))
    c_STRONGEST := gc_of (He.int_ok X G (c1.fact 8 (f := .int "STRONGEST" (3)) rfl))
    c_GREATEST_TIME := gc_of (He.int_ok X G (c1.fact 9 (f := .int "GREATEST_TIME" (1000000000)) rfl))
    c_GREATEST_DRIFT := gc_of (He.int_ok X G (c1.fact 10 (f := .int "GREATEST_DRIFT" (500)) rfl))
    c_PARTS := gc_of (He.int_ok X G (c1.fact 11 (f := .int "PARTS" (1000)) rfl))
    c_MOST_WORLDS := gc_of (He.int_ok X G (c1.fact 12 (f := .int "MOST_WORLDS" (16)) rfl))
    c_MOST_INPUTS := gc_of (He.int_ok X G (c1.fact 13 (f := .int "MOST_INPUTS" (64)) rfl))
    c_MOST_SENT := gc_of (He.int_ok X G (c1.fact 14 (f := .int "MOST_SENT" (16)) rfl))
    c_MOST_FOLLOWED_A_TICK := gc_of (He.int_ok X G (c1.fact 15 (f := .int "MOST_FOLLOWED_A_TICK" (4)) rfl))
    c_GREATEST_TICK := gc_of (He.int_ok X G (c1.fact 16 (f := .int "GREATEST_TICK" (10000)) rfl))
    c_MOST_KEPT := gc_of (He.int_ok X G (c1.fact 17 (f := .int "MOST_KEPT" (64)) rfl))
    c_MOST_CLIENTS := gc_of (He.int_ok X G (c1.fact 18 (f := .int "MOST_CLIENTS" (4)) rfl))
    c_MOST_PACKETS := gc_of (He.int_ok X G (c1.fact 19 (f := .int "MOST_PACKETS" (200)) rfl))
    c_NO_SUCH := gc_of (He.int_ok X G (c1.fact 20 (f := .int "NO_SUCH" (-1)) rfl))
    c_OUT_OF_RANGE := gc_of (He.int_ok X G (c1.fact 21 (f := .int "OUT_OF_RANGE" (-2)) rfl))
    c_TAKEN := gc_of (He.int_ok X G (c1.fact 22 (f := .int "TAKEN" (-3)) rfl))
    c_FULL := gc_of (He.int_ok X G (c1.fact 23 (f := .int "FULL" (-4)) rfl))
    c_LAST_TICK := gc_of (He.int_ok X G (c1.fact 24 (f := .int "LAST_TICK" (-5)) rfl))
    c_NO_TICK_YET := gc_of (He.int_ok X G (c1.fact 25 (f := .int "NO_TICK_YET" (-6)) rfl))
    c_NOTHING_SHOWN := gc_of (He.int_ok X G (c1.fact 26 (f := .int "NOTHING_SHOWN" (-7)) rfl))
    c_NOT_KEPT := gc_of (He.int_ok X G (c1.fact 27 (f := .int "NOT_KEPT" (-8)) rfl))
    c_NOTHING_KNOWN := gc_of (He.int_ok X G (c1.fact 28 (f := .int "NOTHING_KNOWN" (-9)) rfl))
    c_GREATEST_STEP := gc_of (He.int_ok X G (c1.fact 29 (f := .int "GREATEST_STEP" (1000)) rfl))
    c_GREATEST_SQUARED_DISTANCE := gc_of (He.int_ok X G (c1.fact 30 (f := .int "GREATEST_SQUARED_DISTANCE" (25)) rfl))
    c_GREATEST_KEY := gc_of (He.int_ok X G (c1.fact 31 (f := .int "GREATEST_KEY" (4095)) rfl))
    c_GREATEST_CLIENT := gc_of (He.int_ok X G (c1.fact 32 (f := .int "GREATEST_CLIENT" (9)) rfl))
    c_FIRST_FREE_KEY := gc_of (He.int_ok X G (c1.fact 33 (f := .int "FIRST_FREE_KEY" (2000)) rfl))
    c_LAST_FREE_KEY := gc_of (He.int_ok X G (c1.fact 34 (f := .int "LAST_FREE_KEY" (2063)) rfl))
    c_GREATEST_FREE_VALUE := gc_of (He.int_ok X G (c1.fact 35 (f := .int "GREATEST_FREE_VALUE" (1000000)) rfl))
    c_ARGUMENTS := ⟨_, He.glo_ok X G (c1.fact 36 (f := .glo "ARGUMENTS") rfl), He.tupB_ok x0 _⟩
    n_abs := He.free_ok X G (c1.fact 37 (f := .free "abs") rfl)
    n_any := He.free_ok X G (c1.fact 38 (f := .free "any") rfl)
    n_dict := He.free_ok X G (c1.fact 39 (f := .free "dict") rfl)
    n_isinstance := He.free_ok X G (c1.fact 40 (f := .free "isinstance") rfl)
    n_len := He.free_ok X G (c1.fact 41 (f := .free "len") rfl)
    n_list := He.free_ok X G (c1.fact 42 (f := .free "list") rfl)
    n_max := He.free_ok X G (c1.fact 43 (f := .free "max") rfl)
    n_min := He.free_ok X G (c1.fact 44 (f := .free "min") rfl)
    n_range := He.free_ok X G (c1.fact 45 (f := .free "range") rfl)
    n_set := He.free_ok X G (c1.fact 46 (f := .free "set") rfl)
    n_sorted := He.free_ok X G (c1.fact 47 (f := .free "sorted") rfl)
    cl_Between := He.cls_ok (c1.fact 49 (f := .cls "Between") rfl)
    na_Between_before := He.noat_ok (c1.fact 51 (f := .noat "Between" "before") rfl)
    na_Between_after := He.noat_ok (c1.fact 52 (f := .noat "Between" "after") rfl)
    na_Between_lower_number := He.noat_ok (c1.fact 53 (f := .noat "Between" "lower_number") rfl)
    na_Between_passed := He.noat_ok (c1.fact 54 (f := .noat "Between" "passed") rfl)
    cl_Bounds := He.cls_ok (c1.fact 56 (f := .cls "Bounds") rfl)
    na_Bounds_time := He.noat_ok (c1.fact 58 (f := .noat "Bounds" "time") rfl)
    na_Bounds_lo := He.noat_ok (c1.fact 59 (f := .noat "Bounds" "lo") rfl)
    na_Bounds_hi := He.noat_ok (c1.fact 60 (f := .noat "Bounds" "hi") rfl)
    cl_Down := He.cls_ok (c1.fact 62 (f := .cls "Down") rfl)
    na_Down_client := He.noat_ok (c1.fact 64 (f := .noat "Down" "client") rfl)
    na_Down_tick := He.noat_ok (c1.fact 65 (f := .noat "Down" "tick") rfl)
    na_Down_base := He.noat_ok (c1.fact 66 (f := .noat "Down" "base") rfl)
    na_Down_changes := He.noat_ok (c1.fact 67 (f := .noat "Down" "changes") rfl)
    cl_Up := He.cls_ok (c1.fact 69 (f := .cls "Up") rfl)
    na_Up_client := He.noat_ok (c1.fact 71 (f := .noat "Up" "client") rfl)
    na_Up_tick := He.noat_ok (c1.fact 72 (f := .noat "Up" "tick") rfl)
    na_Up_inputs := He.noat_ok (c1.fact 73 (f := .noat "Up" "inputs") rfl)
    cl_Client := He.cls_ok (c1.fact 75 (f := .cls "Client") rfl)
    na_Client_number := He.noat_ok (c1.fact 77 (f := .noat "Client" "number") rfl)
    na_Client_body := He.noat_ok (c1.fact 78 (f := .noat "Client" "body") rfl)
    na_Client_last_tick := He.noat_ok (c1.fact 79 (f := .noat "Client" "last_tick") rfl)
    na_Client_worlds := He.noat_ok (c1.fact 80 (f := .noat "Client" "worlds") rfl)
    na_Client_inputs_made := He.noat_ok (c1.fact 81 (f := .noat "Client" "inputs_made") rfl)
    na_Client_inputs := He.noat_ok (c1.fact 82 (f := .noat "Client" "inputs") rfl)
    na_Client_bounds := He.noat_ok (c1.fact 83 (f := .noat "Client" "bounds") rfl)
    cl_Peer := He.cls_ok (c1.fact 85 (f := .cls "Peer") rfl)
    na_Peer_number := He.noat_ok (c1.fact 87 (f := .noat "Peer" "number") rfl)
    na_Peer_body := He.noat_ok (c1.fact 88 (f := .noat "Peer" "body") rfl)
    na_Peer_known_tick := He.noat_ok (c1.fact 89 (f := .noat "Peer" "known_tick") rfl)
    na_Peer_sent := He.noat_ok (c1.fact 90 (f := .noat "Peer" "sent") rfl)
    na_Peer_waiting := He.noat_ok (c1.fact 91 (f := .noat "Peer" "waiting") rfl)
    cl_Net := He.cls_ok (c1.fact 93 (f := .cls "Net") rfl)
    na_Net_world := He.noat_ok (c1.fact 95 (f := .noat "Net" "world") rfl)
    na_Net_tick := He.noat_ok (c1.fact 96 (f := .noat "Net" "tick") rfl)
    na_Net_kept := He.noat_ok (c2.fact 0 (f := .noat "Net" "kept") rfl)
    na_Net_clients := He.noat_ok (c2.fact 1 (f := .noat "Net" "clients") rfl)
    na_Net_peers := He.noat_ok (c2.fact 2 (f := .noat "Net" "peers") rfl)
    na_Net_packets := He.noat_ok (c2.fact 3 (f := .noat "Net" "packets") rfl)
    na_Net_drift := He.noat_ok (c2.fact 4 (f := .noat "Net" "drift") rfl)
    cl_Shot := He.cls_ok (c2.fact 6 (f := .cls "Shot") rfl)
    na_Shot_x := He.noat_ok (c2.fact 8 (f := .noat "Shot" "x") rfl)
    na_Shot_y := He.noat_ok (c2.fact 9 (f := .noat "Shot" "y") rfl)
    na_Shot_dx := He.noat_ok (c2.fact 10 (f := .noat "Shot" "dx") rfl)
    na_Shot_dy := He.noat_ok (c2.fact 11 (f := .noat "Shot" "dy") rfl)
    na_Shot_squared_step := He.noat_ok (c2.fact 12 (f := .noat "Shot" "squared_step") rfl)
    g_Down := ⟨_, He.glo_ok X G (c1.fact 61 (f := .glo "Down") rfl), rfl⟩
    ty_Down := ⟨of_decide_eq_true x1, of_decide_eq_true x5, of_decide_eq_true x6, of_decide_eq_true x2⟩
    ty_Up := ⟨of_decide_eq_true x3, of_decide_eq_true x5, of_decide_eq_true x6, of_decide_eq_true x4⟩
    kit_DD := of_decide_eq_true x7
    kit_UD := of_decide_eq_true r7
    f_is_time := hasF_of (c1.def_ 0 (d := dd_is_time) rfl) (He.glo_ok X G (c2.fact 13 (f := .glo "is_time") rfl)) bd_is_time
    f_Between___init__ := hasC_of (c1.def_ 1 (d := dd_Between___init__) rfl) (He.glo_ok X G (c1.fact 48 (f := .glo "Between") rfl)) (He.mkr_ok (c1.fact 50 (f := .mkr "Between") rfl)) bd_Between___init__
    f_Between_upper_number := hasM_of (c1.def_ 2 (d := dd_Between_upper_number) rfl) (He.meth_ok (c2.fact 14 (f := .meth "Between" "upper_number") rfl)) bd_Between_upper_number
    f_shown_value := hasF_of (c1.def_ 3 (d := dd_shown_value) rfl) (He.glo_ok X G (c2.fact 15 (f := .glo "shown_value") rfl)) bd_shown_value
    f_value_in_first := hasF_of (c1.def_ 4 (d := dd_value_in_first) rfl) (He.glo_ok X G (c2.fact 16 (f := .glo "value_in_first") rfl)) bd_value_in_first
    f_value_between := hasF_of (c1.def_ 5 (d := dd_value_between) rfl) (He.glo_ok X G (c2.fact 17 (f := .glo "value_between") rfl)) bd_value_between
    f_is_body_number := hasF_of (c1.def_ 6 (d := dd_is_body_number) rfl) (He.glo_ok X G (c2.fact 18 (f := .glo "is_body_number") rfl)) bd_is_body_number
    f_is_body_key := hasF_of (c1.def_ 7 (d := dd_is_body_key) rfl) (He.glo_ok X G (c2.fact 19 (f := .glo "is_body_key") rfl)) bd_is_body_key
    f_body_of_key := hasF_of (c1.def_ 8 (d := dd_body_of_key) rfl) (He.glo_ok X G (c2.fact 20 (f := .glo "body_of_key") rfl)) bd_body_of_key
    f_is_place := hasF_of (c1.def_ 9 (d := dd_is_place) rfl) (He.glo_ok X G (c2.fact 21 (f := .glo "is_place") rfl)) bd_is_place
    f_is_speed := hasF_of (c1.def_ 10 (d := dd_is_speed) rfl) (He.glo_ok X G (c2.fact 22 (f := .glo "is_speed") rfl)) bd_is_speed
    f_is_push := hasF_of (c1.def_ 11 (d := dd_is_push) rfl) (He.glo_ok X G (c2.fact 23 (f := .glo "is_push") rfl)) bd_is_push
    f_fits_body_key := hasF_of (c1.def_ 12 (d := dd_fits_body_key) rfl) (He.glo_ok X G (c2.fact 24 (f := .glo "fits_body_key") rfl)) bd_fits_body_key
    f_followed_key := hasF_of (c1.def_ 13 (d := dd_followed_key) rfl) (He.glo_ok X G (c2.fact 25 (f := .glo "followed_key") rfl)) bd_followed_key
    f_has_body := hasF_of (c1.def_ 14 (d := dd_has_body) rfl) (He.glo_ok X G (c2.fact 26 (f := .glo "has_body") rfl)) bd_has_body
    f_put_body := hasF_of (c1.def_ 15 (d := dd_put_body) rfl) (He.glo_ok X G (c2.fact 27 (f := .glo "put_body") rfl)) bd_put_body
    f_body_values := hasF_of (c1.def_ 16 (d := dd_body_values) rfl) (He.glo_ok X G (c2.fact 28 (f := .glo "body_values") rfl)) bd_body_values
    f_follow_axis := hasF_of (c1.def_ 17 (d := dd_follow_axis) rfl) (He.glo_ok X G (c2.fact 29 (f := .glo "follow_axis") rfl)) bd_follow_axis
    f_follow := hasF_of (c1.def_ 18 (d := dd_follow) rfl) (He.glo_ok X G (c2.fact 30 (f := .glo "follow") rfl)) bd_follow
    f_greatest_divisor := hasF_of (c1.def_ 19 (d := dd_greatest_divisor) rfl) (He.glo_ok X G (c2.fact 31 (f := .glo "greatest_divisor") rfl)) bd_greatest_divisor
    f_least_terms := hasF_of (c1.def_ 20 (d := dd_least_terms) rfl) (He.glo_ok X G (c2.fact 32 (f := .glo "least_terms") rfl)) bd_least_terms
    f_is_clock_time := hasF_of (c1.def_ 21 (d := dd_is_clock_time) rfl) (He.glo_ok X G (c2.fact 33 (f := .glo "is_clock_time") rfl)) bd_is_clock_time
    f_is_drift := hasF_of (c1.def_ 22 (d := dd_is_drift) rfl) (He.glo_ok X G (c2.fact 34 (f := .glo "is_drift") rfl)) bd_is_drift
    f_Bounds___init__ := hasC_of (c1.def_ 23 (d := dd_Bounds___init__) rfl) (He.glo_ok X G (c1.fact 55 (f := .glo "Bounds") rfl)) (He.mkr_ok (c1.fact 57 (f := .mkr "Bounds") rfl)) bd_Bounds___init__
    f_Bounds_later := hasM_of (c1.def_ 24 (d := dd_Bounds_later) rfl) (He.meth_ok (c2.fact 35 (f := .meth "Bounds" "later") rfl)) bd_Bounds_later
    f_Bounds_told := hasM_of (c1.def_ 25 (d := dd_Bounds_told) rfl) (He.meth_ok (c2.fact 36 (f := .meth "Bounds" "told") rfl)) bd_Bounds_told
    f_bounds_of_exchange := hasF_of (c1.def_ 26 (d := dd_bounds_of_exchange) rfl) (He.glo_ok X G (c2.fact 37 (f := .glo "bounds_of_exchange") rfl)) bd_bounds_of_exchange
    f_both_together := hasF_of (c1.def_ 27 (d := dd_both_together) rfl) (He.glo_ok X G (c2.fact 38 (f := .glo "both_together") rfl)) bd_both_together
    f_Down___init__ := hasC_of (c1.def_ 28 (d := dd_Down___init__) rfl) (He.glo_ok X G (c1.fact 61 (f := .glo "Down") rfl)) (He.mkr_ok (c1.fact 63 (f := .mkr "Down") rfl)) bd_Down___init__
    f_Up___init__ := hasC_of (c1.def_ 29 (d := dd_Up___init__) rfl) (He.glo_ok X G (c1.fact 68 (f := .glo "Up") rfl)) (He.mkr_ok (c1.fact 70 (f := .mkr "Up") rfl)) bd_Up___init__
    f_changes_between := hasF_of (c1.def_ 30 (d := dd_changes_between) rfl) (He.glo_ok X G (c2.fact 39 (f := .glo "changes_between") rfl)) bd_changes_between
    f_put_changes := hasF_of (c1.def_ 31 (d := dd_put_changes) rfl) (He.glo_ok X G (c2.fact 40 (f := .glo "put_changes") rfl)) bd_put_changes
    f_listed := hasF_of (c1.def_ 32 (d := dd_listed) rfl) (He.glo_ok X G (c2.fact 41 (f := .glo "listed") rfl)) bd_listed
    f_keep_world := hasF_of (c1.def_ 33 (d := dd_keep_world) rfl) (He.glo_ok X G (c2.fact 42 (f := .glo "keep_world") rfl)) bd_keep_world
    f_Client___init__ := hasC_of (c1.def_ 34 (d := dd_Client___init__) rfl) (He.glo_ok X G (c1.fact 74 (f := .glo "Client") rfl)) (He.mkr_ok (c1.fact 76 (f := .mkr "Client") rfl)) bd_Client___init__
    f_Client_is_full := hasM_of (c1.def_ 35 (d := dd_Client_is_full) rfl) (He.meth_ok (c2.fact 43 (f := .meth "Client" "is_full") rfl)) bd_Client_is_full
    f_Client_make_input := hasM_of (c1.def_ 36 (d := dd_Client_make_input) rfl) (He.meth_ok (c2.fact 44 (f := .meth "Client" "make_input") rfl)) bd_Client_make_input
    f_Client_make_up := hasM_of (c1.def_ 37 (d := dd_Client_make_up) rfl) (He.meth_ok (c2.fact 45 (f := .meth "Client" "make_up") rfl)) bd_Client_make_up
    f_Client_take_down := hasM_of (c1.def_ 38 (d := dd_Client_take_down) rfl) (He.meth_ok (c2.fact 46 (f := .meth "Client" "take_down") rfl)) bd_Client_take_down
    f_Client_world_of := hasM_of (c1.def_ 39 (d := dd_Client_world_of) rfl) (He.meth_ok (c2.fact 47 (f := .meth "Client" "world_of") rfl)) bd_Client_world_of
    f_Client_last_world := hasM_of (c1.def_ 40 (d := dd_Client_last_world) rfl) (He.meth_ok (c2.fact 48 (f := .meth "Client" "last_world") rfl)) bd_Client_last_world
    f_Client_guess := hasM_of (c1.def_ 41 (d := dd_Client_guess) rfl) (He.meth_ok (c2.fact 49 (f := .meth "Client" "guess") rfl)) bd_Client_guess
    f_Client_knows_later_than := hasM_of (c1.def_ 42 (d := dd_Client_knows_later_than) rfl) (He.meth_ok (c2.fact 50 (f := .meth "Client" "knows_later_than") rfl)) bd_Client_knows_later_than
    f_Client_learn_bounds := hasM_of (c1.def_ 43 (d := dd_Client_learn_bounds) rfl) (He.meth_ok (c2.fact 51 (f := .meth "Client" "learn_bounds") rfl)) bd_Client_learn_bounds
    f_Client_forget_inputs := hasM_of (c1.def_ 44 (d := dd_Client_forget_inputs) rfl) (He.meth_ok (c2.fact 52 (f := .meth "Client" "forget_inputs") rfl)) bd_Client_forget_inputs
    f_Peer___init__ := hasC_of (c1.def_ 45 (d := dd_Peer___init__) rfl) (He.glo_ok X G (c1.fact 84 (f := .glo "Peer") rfl)) (He.mkr_ok (c1.fact 86 (f := .mkr "Peer") rfl)) bd_Peer___init__
    f_Peer_make_down := hasM_of (c2.def_ 0 (d := dd_Peer_make_down) rfl) (He.meth_ok (c2.fact 53 (f := .meth "Peer" "make_down") rfl)) bd_Peer_make_down
    f_Peer_choose_base := hasM_of (c2.def_ 1 (d := dd_Peer_choose_base) rfl) (He.meth_ok (c2.fact 54 (f := .meth "Peer" "choose_base") rfl)) bd_Peer_choose_base
    f_Peer_take_up := hasM_of (c2.def_ 2 (d := dd_Peer_take_up) rfl) (He.meth_ok (c2.fact 55 (f := .meth "Peer" "take_up") rfl)) bd_Peer_take_up
    f_Peer_follow_waiting := hasM_of (c2.def_ 3 (d := dd_Peer_follow_waiting) rfl) (He.meth_ok (c2.fact 56 (f := .meth "Peer" "follow_waiting") rfl)) bd_Peer_follow_waiting
    f_Net___init__ := hasC_of (c2.def_ 4 (d := dd_Net___init__) rfl) (He.glo_ok X G (c1.fact 92 (f := .glo "Net") rfl)) (He.mkr_ok (c1.fact 94 (f := .mkr "Net") rfl)) bd_Net___init__
    f_Net_clients_full := hasM_of (c2.def_ 5 (d := dd_Net_clients_full) rfl) (He.meth_ok (c2.fact 57 (f := .meth "Net" "clients_full") rfl)) bd_Net_clients_full
    f_Net_packets_full := hasM_of (c2.def_ 6 (d := dd_Net_packets_full) rfl) (He.meth_ok (c2.fact 58 (f := .meth "Net" "packets_full") rfl)) bd_Net_packets_full
    f_Net_body_is_taken := hasM_of (c2.def_ 7 (d := dd_Net_body_is_taken) rfl) (He.meth_ok (c2.fact 59 (f := .meth "Net" "body_is_taken") rfl)) bd_Net_body_is_taken
    f_Net_some_clock_is_known := hasM_of (c2.def_ 8 (d := dd_Net_some_clock_is_known) rfl) (He.meth_ok (c2.fact 60 (f := .meth "Net" "some_clock_is_known") rfl)) bd_Net_some_clock_is_known
    f_Net_add_client := hasM_of (c2.def_ 9 (d := dd_Net_add_client) rfl) (He.meth_ok (c2.fact 61 (f := .meth "Net" "add_client") rfl)) bd_Net_add_client
    f_Net_followed_by := hasM_of (c2.def_ 10 (d := dd_Net_followed_by) rfl) (He.meth_ok (c2.fact 62 (f := .meth "Net" "followed_by") rfl)) bd_Net_followed_by
    f_Net_advance := hasM_of (c2.def_ 11 (d := dd_Net_advance) rfl) (He.meth_ok (c2.fact 63 (f := .meth "Net" "advance") rfl)) bd_Net_advance
    f_Net_add_packet := hasM_of (c2.def_ 12 (d := dd_Net_add_packet) rfl) (He.meth_ok (c2.fact 64 (f := .meth "Net" "add_packet") rfl)) bd_Net_add_packet
    f_is_direction := hasF_of (c2.def_ 13 (d := dd_is_direction) rfl) (He.glo_ok X G (c2.fact 65 (f := .glo "is_direction") rfl)) bd_is_direction
    f_Shot___init__ := hasC_of (c2.def_ 14 (d := dd_Shot___init__) rfl) (He.glo_ok X G (c2.fact 5 (f := .glo "Shot") rfl)) (He.mkr_ok (c2.fact 7 (f := .mkr "Shot") rfl)) bd_Shot___init__
    f_Shot_way_to := hasM_of (c2.def_ 15 (d := dd_Shot_way_to) rfl) (He.meth_ok (c2.fact 66 (f := .meth "Shot" "way_to") rfl)) bd_Shot_way_to
    f_Shot_meets := hasM_of (c2.def_ 16 (d := dd_Shot_meets) rfl) (He.meth_ok (c2.fact 67 (f := .meth "Shot" "meets") rfl)) bd_Shot_meets
    f_tell_base := hasF_of (c2.def_ 17 (d := dd_tell_base) rfl) (He.glo_ok X G (c2.fact 68 (f := .glo "tell_base") rfl)) bd_tell_base
    f_tell_guess := hasF_of (c2.def_ 18 (d := dd_tell_guess) rfl) (He.glo_ok X G (c2.fact 69 (f := .glo "tell_guess") rfl)) bd_tell_guess
    f_render := hasF_of (c2.def_ 19 (d := dd_render) rfl) (He.glo_ok X G (c2.fact 70 (f := .glo "render") rfl)) bd_render
    f_are_ticks_around := hasF_of (c2.def_ 20 (d := dd_are_ticks_around) rfl) (He.glo_ok X G (c2.fact 71 (f := .glo "are_ticks_around") rfl)) bd_are_ticks_around
    f_judge_shot := hasF_of (c2.def_ 21 (d := dd_judge_shot) rfl) (He.glo_ok X G (c2.fact 72 (f := .glo "judge_shot") rfl)) bd_judge_shot
    f_tell_ring := hasF_of (c2.def_ 22 (d := dd_tell_ring) rfl) (He.glo_ok X G (c2.fact 73 (f := .glo "tell_ring") rfl)) bd_tell_ring
    f_exchange := hasF_of (c2.def_ 23 (d := dd_exchange) rfl) (He.glo_ok X G (c2.fact 74 (f := .glo "exchange") rfl)) bd_exchange
    f_tell_offset := hasF_of (c2.def_ 24 (d := dd_tell_offset) rfl) (He.glo_ok X G (c2.fact 75 (f := .glo "tell_offset") rfl)) bd_tell_offset
    f_set_drift := hasF_of (c2.def_ 25 (d := dd_set_drift) rfl) (He.glo_ok X G (c2.fact 76 (f := .glo "set_drift") rfl)) bd_set_drift
    f_send_down := hasF_of (c2.def_ 26 (d := dd_send_down) rfl) (He.glo_ok X G (c2.fact 77 (f := .glo "send_down") rfl)) bd_send_down
    f_send_up := hasF_of (c2.def_ 27 (d := dd_send_up) rfl) (He.glo_ok X G (c2.fact 78 (f := .glo "send_up") rfl)) bd_send_up
    f_deliver := hasF_of (c2.def_ 28 (d := dd_deliver) rfl) (He.glo_ok X G (c2.fact 79 (f := .glo "deliver") rfl)) bd_deliver
    f_add_input := hasF_of (c2.def_ 29 (d := dd_add_input) rfl) (He.glo_ok X G (c2.fact 80 (f := .glo "add_input") rfl)) bd_add_input
    f_tell_packet := hasF_of (c2.def_ 30 (d := dd_tell_packet) rfl) (He.glo_ok X G (c2.fact 81 (f := .glo "tell_packet") rfl)) bd_tell_packet
    f_told_down := hasF_of (c2.def_ 31 (d := dd_told_down) rfl) (He.glo_ok X G (c2.fact 82 (f := .glo "told_down") rfl)) bd_told_down
    f_told_value := hasF_of (c2.def_ 32 (d := dd_told_value) rfl) (He.glo_ok X G (c2.fact 83 (f := .glo "told_value") rfl)) bd_told_value
    f_told_up := hasF_of (c2.def_ 33 (d := dd_told_up) rfl) (He.glo_ok X G (c2.fact 84 (f := .glo "told_up") rfl)) bd_told_up
    f_is_free_key := hasF_of (c2.def_ 34 (d := dd_is_free_key) rfl) (He.glo_ok X G (c2.fact 85 (f := .glo "is_free_key") rfl)) bd_is_free_key
    f_make_body := hasF_of (c2.def_ 35 (d := dd_make_body) rfl) (He.glo_ok X G (c2.fact 86 (f := .glo "make_body") rfl)) bd_make_body
    f_make_client := hasF_of (c2.def_ 36 (d := dd_make_client) rfl) (He.glo_ok X G (c2.fact 87 (f := .glo "make_client") rfl)) bd_make_client
    f_set_key := hasF_of (c2.def_ 37 (d := dd_set_key) rfl) (He.glo_ok X G (c2.fact 88 (f := .glo "set_key") rfl)) bd_set_key
    f_unset_key := hasF_of (c2.def_ 38 (d := dd_unset_key) rfl) (He.glo_ok X G (c2.fact 89 (f := .glo "unset_key") rfl)) bd_unset_key
    f_run_tick := hasF_of (c2.def_ 39 (d := dd_run_tick) rfl) (He.glo_ok X G (c2.fact 90 (f := .glo "run_tick") rfl)) bd_run_tick
    f_tell_world := hasF_of (c2.def_ 40 (d := dd_tell_world) rfl) (He.glo_ok X G (c2.fact 91 (f := .glo "tell_world") rfl)) bd_tell_world
    f_tell_counts := hasF_of (c2.def_ 41 (d := dd_tell_counts) rfl) (He.glo_ok X G (c2.fact 92 (f := .glo "tell_counts") rfl)) bd_tell_counts
    f_answer_call := hasF_of (c2.def_ 42 (d := dd_answer_call) rfl) (He.glo_ok X G (c2.fact 93 (f := .glo "answer_call") rfl)) bd_answer_call
    f_answer_first_ten := hasF_of (c2.def_ 43 (d := dd_answer_first_ten) rfl) (He.glo_ok X G (c2.fact 94 (f := .glo "answer_first_ten") rfl)) bd_answer_first_ten
    f_answer_last_ten := hasF_of (c2.def_ 44 (d := dd_answer_last_ten) rfl) (He.glo_ok X G (c2.fact 95 (f := .glo "answer_last_ten") rfl)) bd_answer_last_ten
    f_answers := hasF_of (c2.def_ 45 (d := dd_answers) rfl) (He.glo_ok X G (c2.fact 96 (f := .glo "answers") rfl)) bd_answers
  }
theorem ans_of {P : Program} {w : World} {K : PySem.W.Frag} {h : Heap} {mg : Str → Option Value} {fa : Addr} (X : K.In h) (G : h.Ns mainGlobals mg) (c1 : He.SaysD fas1 dfs1 K) (c2 : He.SaysD fas2 dfs2 K) (hex : exs K = true) (hm : mg ("answers" : Str) = some (.ref fa)) :
    ∃ fd : FuncData, (∀ (s : Shared) (us : List Value), us.length = (["calls"] : List Str).length → BindsTo s fd ⟨us, []⟩ ((["calls"] : List Str).zip us)) ∧ ∀ b : Heap, K.In b → b.Ns mainGlobals mg → FnOk P w K mg b CX0 10 fa fd ["calls"] (spAns1 K) := by
  have T := txt_of X G c1 c2 hex
  obtain ⟨f, fd, F, g, bd⟩ := T.f_answers
  have e := hm.symm.trans g
  cases e
  obtain ⟨⟨oc, od, kV, doc, pm, an, cdv, ct, osl, rfl, lk, hc⟩, kp⟩ := F
  exact ⟨_, fun s us hu => match us, hu with | [_], _ => .of_eq rfl, fun b _ _ => ok_answers ⟨⟨oc, od, kV, doc, pm, an, cdv, ct, osl, rfl, lk, hc⟩, kp⟩ T⟩
end MN
set_option Elab.async false
set_option maxRecDepth 100000
set_option maxHeartbeats 4000000
set_option linter.unusedVariables false
namespace MN
open PySem PySem.Spec PyProof.Rows L2
open PySem.W (Codec OpenSpec)
/-- what the top has left says K: the promise of answers over it -/
theorem call_of {r : OpenSpec} {q : Program} {ls : List Str} {XP : (Str → Option Value) → Heap → Prop} {d : DefRec} {sp : PySem.W.Frag → Sp} (hW : r.wellSaid = true) (hA : r.args.length = 1) (hR : Room 10 callerA)
    (hF : ∀ (w : World) (mg : Str → Option Value) (fa : Addr) (h : Heap) (K : PySem.W.Frag), K.In h → He.SaysD fas1 dfs1 K → He.SaysD fas2 dfs2 K → exs K = true → h.Ns mainGlobals mg → mg d.name = some (.ref fa) →
      ∃ fd : FuncData, (∀ (s : Shared) (us : List Value), us.length = (["calls"] : List Str).length → BindsTo s fd ⟨us, []⟩ ((["calls"] : List Str).zip us)) ∧ ∀ b : Heap, K.In b → b.Ns mainGlobals mg → FnOk r.prog w K mg b CX0 10 fa fd ["calls"] (sp K))
    (hS : ∀ (K : PySem.W.Frag) (H : Hp) (xs : List V) (a : Codec.denoteAll r.args), OnlyF H → Codec.withinAll r.args a = true → Codec.app r.args r.asked a = true → DwAll K H xs (Codec.encAll r.args a) → sp K xs H (fun v H' => Dw K H' v (r.ret.enc (Codec.app r.args r.f a))) fun _ _ _ => False) :
    PySem.W.WalkOS q ls XP hk.says r d [] (fun f vs => PySem.call f vs) := by
  intro w s0 s1 mg mb G Y fa o pm cd doc dV kV h1 h2 h3 h4 hm hg args vals as hpre hlay hrd hwl hlo
  obtain ⟨a, ea, eb⟩ := PySem.W.os_pre_some hpre
  obtain ⟨rfl, hwi⟩ := Codec.encAll_of_decAll r.args args a ea
  obtain ⟨K, KX, cK, dK, xK⟩ := Y
  obtain ⟨fd, hb, hok⟩ := hF w mg fa _ K KX cK dK xK G.T.g hm
  have key := spec_call (R := []) (cl := classAt s0.heap) (d0 := r.ret.enc (Codec.app r.args r.f a)) KX G.T.g G.T.b G.T.builtins G.T.nolimit hg hwl (pl_encAll _ _) (layable_weight hlay) hR hok hb (by rw [encAll_len]; exact hA) (fun H xs hO hD => hS K H xs a hO hwi eb hD) fun H e s' z => z
  refine PySem.W.enter_call (codeAny_mono key fun r' s' hq => ?_)
  obtain ⟨u, as', rfl, g1, g2, g3, g4⟩ := hq
  exact ⟨.inl ⟨u, _, as', rfl, fun _ => rfl, g1, (OpenSpec.post_iff hW hwi _ _).mpr rfl, fun z => nomatch z⟩, g2, g3, g4⟩
end MN
open PySem PySem.W PySem.Calls PyProof.Rows MN
set_option maxHeartbeats 8000000 in
theorem PySem.Challenge.cw_mirrornet_s01_answers_holds : PySem.Challenge.rw_mirrornet_s01_answers.Holds := by
  w_on
  refine HandSHeadRun.head_spec (r := PySem.Challenge.rw_mirrornet_s01_answers) (q := view PySem.Challenge.rw_mirrornet_s01_answers.prog [116]) (H := MN.hk) (ob := MN.ob) (M := 6000) (loose := MN.loose) (d := HandSHeadRun.topDef PySem.Challenge.rw_mirrornet_s01_answers.prog 116) (kwd := []) MN.ob_eq
    MN.tx_1 MN.tx_2 MN.run MN.tx_3 (by kernel_rfl) (by kernel_rfl) os_shapes MN.tx_4 MN.tx_5 ⟨rfl, rfl, rfl, rfl, rfl, by decide +kernel⟩ ⟨[.list [.int 4]], by decide +kernel, by decide +kernel⟩ ?hc
  case hc =>
    refine MN.call_of (sp := MN.spAns1) MN.tx_4 rfl ⟨rfl, by decide, by decide⟩ ?F ?S
    case F =>
      intro w mg fa h K KX cK dK xK G hm
      have e : (HandSHeadRun.topDef PySem.Challenge.rw_mirrornet_s01_answers.prog 116).name = ("answers" : PySem.Str) := by kernel_rfl
      rw [e] at hm
      exact MN.ans_of KX G cK dK xK hm
    case S =>
      intro K H xs a hO hwi hask hx
      cases hx with
      | cons h1 h2 =>
        cases h2
        cases h1 with
        | lst hs ha =>
          have e := L2.ints_dw a.1 _ ha
          subst e
          have q : ((Codec.inLen 0 30000 a.1 && a.1.all (Codec.inInt (Int.negSucc 2999999999) (Int.ofNat 3000000000))) && true) = true := hwi
          rw [Bool.and_eq_true, Bool.and_eq_true] at q
          exact ⟨_, a.1, rfl, hs, (Codec.inNat_iff.mp q.1.1).2, hask, fun H' p hp => .lst (L2.SqL.of hp) (L2.dw_ints _)⟩
